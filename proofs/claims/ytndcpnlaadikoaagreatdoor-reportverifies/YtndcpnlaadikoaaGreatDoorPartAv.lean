/- What the proof leans on, part 22. -/
import Derived.Test.YtndcpnlaadikoaaGreatDoorPartAu
set_option maxRecDepth 100000
set_option maxHeartbeats 12800000
open Go.Proofs.Tryz
namespace Go.Proofs.YtndcpnlaadikoaaGreatDoor
open Go.RowKit
def UI (s:Sto):Cla->List Int->List Int
 | [],acc=>acc
 | l :: r,acc=>UI s r (if Wb s l&&!hasB acc l.var then acc++[l.var] else acc)
theorem lz (s:Sto) (l:MLit):∀(c:Cla) (acc:List Int),UI s (c++[l]) acc=if Wb s l&&!hasB (UI s c acc) l.var then UI s c acc++[l.var] else UI s c acc
 | [],acc=>rfl
 | x :: r,acc=>by rw[O3];unfold UI;exact lz s l r _
theorem ly (s:Sto) (v:Int):∀(c:Cla) (acc:List Int),v∈UI s c acc↔v∈acc∨∃l∈c,Wb s l=true/\l.var=v
 | [],acc=>by simp[UI]
 | x :: r,acc=>by
   unfold UI;rw[ly s v r];cases hx:Wb s x with
   | false=>simp[hx]
   | true =>
     cases hb:hasB acc x.var with
     | true =>
       have:=(DP _ _).1 hb;simp only[Bool.not_true,Bool.and_false,XO,if_false]
       constructor
       ·rintro (h | ⟨l,hl,h⟩)
        ·exact Or.inl h
        exact Or.inr ⟨l,Y2 _ hl,h⟩
       rintro (h | ⟨l,hl,h1,h2⟩)
       ·exact Or.inl h
       rcases YJ.1 hl with rfl | hl
       ·left;rw[<-h2];exact this
       exact Or.inr ⟨l,hl,h1,h2⟩
     | false =>
       simp only[Bool.not_false,Bool.and_self,if_true,Xn,Zh]
       constructor
       ·rintro ((h | h) | ⟨l,hl,h⟩)
        ·exact Or.inl h
        ·exact Or.inr ⟨x,Zk ..,hx,h.symm⟩
        exact Or.inr ⟨l,Y2 _ hl,h⟩
       rintro (h | ⟨l,hl,h1,h2⟩)
       ·exact Or.inl (Or.inl h)
       rcases YJ.1 hl with rfl | hl
       ·exact Or.inl (Or.inr h2.symm)
       exact Or.inr ⟨l,hl,h1,h2⟩
theorem lw (s:Sto):∀(c:Cla) (acc:List Int),acc.Nodup->(UI s c acc).Nodup
 | [],acc,h=>h
 | x :: r,acc,h=>by
   unfold UI;refine lw s r _ ?_;cases hx:Wb s x&&!hasB acc x.var with
   | false=>exact h
   | true =>
     simp only[ZB,SQ] at hx;simp only[if_true];rw[K9];refine⟨h,by simp,λa ha b hb he=>?_⟩
     rw[Zh.1 hb] at he;rw[he] at ha;have:=(DP _ _).2 ha;rw[hx.2] at this;cases this
theorem lu (s:Sto):∀(c:Cla) (acc:List Int),(UI s c acc).length<=acc.length+c.length
 | [],acc=>by simp[UI]
 | x :: r,acc=>by
   unfold UI;have:=lu s r (if Wb s x&&!hasB acc x.var then acc++[x.var] else acc)
   have h2:(if Wb s x&&!hasB acc x.var then acc++[x.var] else acc).length<=acc.length+1:=by split <;> simp
   simp only[Xe];omega
def Q9 (c:Cla) (v0:Int) (k:Nat) (z:Int):Bool:=decide ((k:Int)≠v0) || oneB c k z
def Er (s:Sto) (c:Cla):Sto :=
 if zAI s then s else match UI s c [] with
  | []=>S3 s.length
  | [v0]=>V0 s (Q9 c v0)
  | _=>s
theorem zUf (s:Sto) (c:Cla):Er s c=Wi s c:=by
 unfold Er;cases hf:zAI s with
 | true =>
   unfold Wi;rw[hf];rfl
 | false =>
   simp only[XO,if_false];have hm:=λv=>ly s v c []
   have PL:=lw s c [] List.nodup_nil
   match hq:UI s c [] with
   | [] =>
     rw[hq] at hm;have Xy:c.any (Wb s)=false:=by
      rw[Ty];intro l hl Gv;have:=(hm l.var).2 (Or.inr ⟨l,hl,Gv,rfl⟩);cases this
     rw[pC s c hf Xy];refine AC _ _ (by rw[Vs];simp[S3]) λk r q hr YA=>?_
     obtain⟨a,_,rfl⟩:=OX _ _ _ _ YA;unfold S3 at hr;have hk:k<s.length:=by have:=(ZN.1 hr).1;simpa using this
     rw[O6,if_pos hk] at hr;cases hr
     simp
   | [v0] =>
     rw[hq] at hm;obtain⟨t,ht,P0,MN⟩:∃l∈c,Wb s l=true/\l.var=v0:=by
      rcases (hm v0).1 (by simp) with h | h
      ·cases h
      exact h
     have Xy:c.any (λl=>!decide (l.var=t.var)&&Wb s l)=false:=by
      rw[Ty];intro l hl hx;simp only[ZB,SQ,decide_eq_false_iff_not] at hx;have:=(hm l.var).2 (Or.inr ⟨l,hl,hx.2,rfl⟩);exact hx.1 ((Zh.1 this).trans MN.symm)
     rw[wY s c hf t ht P0 Xy,MN];rfl
   | v0 :: v1 :: rest =>
     rw[hq] at hm PL;have ZP:v0≠v1:=λe=>by
      rw[e] at PL;simp at PL
     obtain⟨t,ht,P0,MN⟩:∃l∈c,Wb s l=true/\l.var=v0:=by
      rcases (hm v0).1 (by simp) with h | h
      ·cases h
      exact h
     obtain⟨t1,ht1,tA,tz⟩:∃l∈c,Wb s l=true/\l.var=v1:=by
      rcases (hm v1).1 (by simp) with h | h
      ·cases h
      exact h
     refine (pA s c hf t ht P0 (Yh.2 ⟨t1,ht1,?_⟩)).symm;have:¬t1.var=t.var:=by rw[MN,tz];exact λe=>ZP e.symm
     simp[this,tA]
theorem zUg (c:Cla) (k:Nat) (z:Int) (i:Nat) (l:MLit) (h:c[i]? = some l):oneB (c.take (i+1)) k z=(oneB (c.take i) k z || (decide (l.var=(k:Int))&&litV z l)):=by
 unfold oneB;exact Es c _ i l h
theorem zSj (s:Sto) (S1:s.length<=6) (ZS:∀r∈s,r.length<=6) (c:Cla) (hc40:c.length<=40) (VO:Fa s c) (v u:Value) (w:World) (hv:RArg w v s) (hu:LArg w u c) :
 Calls prog 161 #[v,u] w λe w'=>∃x,e=.returned x/\RArg w' x (Er s c)/\Bw w w':=by
 have HV:Hid (∀Y,Bw w Y->RArg Y v s):=λY h=>RArg.below h hv
 have HU:Hid (∀Y,Bw w Y->LArg Y u c):=λY h=>LArg.below h hu
 have Pi:=hI VO;have Wp:=hI ZS;obtain⟨a,ca,rfl,Y8,_⟩:=hv;obtain⟨b,cb,rfl,Re,_⟩:=hu;unfold maxLen at Y8 Re;obtain⟨tG,tF⟩:=Y8;obtain⟨Co,Cn⟩:=Re;obtain⟨i0,hi,Ze,Y_,Zb⟩:=info_parts Hl;obtain⟨R,hR⟩:∃R,Er s c=R:=⟨_,rfl⟩;have HR:=hI hR;rw[hR];clear hR VO ZS;cases hf:zAI s
 ·have Zy:Hid (R=match UI s c [] with | []=>S3 s.length | [v0]=>V0 s (Q9 c v0) | _=>s):=by
   show _=_;rw[<-HR.o];unfold Er;rw[hf];rfl
  have tu:Hid (∀Y,RArg Y (.slice a s.length ca) s->Calls prog 93 #[.slice a s.length ca] Y λe w'=>e=.returned (.bool false)/\w'=Y):=λY hY=>by
   have:=Kf s _ Y hY;rw[hf] at this;exact this
  clear hf HR;go_enter func161,ntmps161
  go_wp2_with fail
  refine (tu.o w (HV.o _ (Z6 _ _))).mono ?_;rintro e w1 ⟨rfl,rfl⟩;go_wp2_with fail
  go_loopw [5,6] (λo i wr=>∃k:Nat,k<=c.length/\i=.int .i64 k/\wr.ownsRow w1.heap.size 3 1 o (UI s (c.take k) []).length ((UI s (c.take k) []).map (Value.int .i64))/\Bw w1 wr) (λ_ i _=>c.length - (intOf i).toNat)
  case atStart=>exact⟨0,by omega,rfl,ZH _ _ _ _,Z6 _ _⟩
  obtain⟨k,hk,rfl,Z9,Z3⟩:=hrel;obtain⟨V,hV⟩:∃V,UI s (c.take k) []=V:=⟨_,rfl⟩;have tr:=hI hV;have hVl:V.length<=40:=by
   rw[<-hV];have:=lu s (c.take k) [];rw[X_] at this;simp at this;omega
  rw[hV] at Z9;have Yo:=hI Z9;have ZW:=hI Z3;obtain⟨av,cv,rfl⟩:=ZJ Z9;clear hV;by_cases Z7:k<c.length
  ·obtain⟨l,hl⟩:∃l,c[k]? = some l:=⟨c[k],by simp[Z7]⟩
   have XA:Hid (UI s (c.take (k+1)) []=if Wb s l&&!hasB V l.var then V++[l.var] else V):=by
    show _=_;rw[Y1,hl,<-tr.o];exact lz s l _ _
   obtain⟨lb,lo,Tn,Pk,m0,m1,m2⟩:=LArg.nth (HU.o _ Z3) k l hl;subst Tn;obtain⟨OC,OB⟩:=Pi.o l (Zz hl);obtain⟨var,op,n⟩:=l
   dsimp only at m0 m1 m2 OC OB XA
   clear hl;go_wp2_with fail
   refine (zSe s ⟨var,op,n⟩ OC OB _ wr (HV.o _ ZW.o)).mono ?_;rintro e w2 ⟨⟨z,rfl,hz⟩,ZY⟩;have Tj:Hid (w2.ownsRow w1.heap.size 3 1 (.slice av V.length cv) V.length (V.map (Value.int .i64))):=YZ Yo.o ZY;have ZI:=hI (ZW.o.trans (ZY.mono ZW.o.size));have Cj:=ZQ Pk ZY.size;have m02:=(ZY.cell (p:=⟨lb,lo+k * 3,none⟩) Pk).trans m0;clear ZY Z9 Z3 m0 m1 m2 Pk;cases y_:Wb s ⟨var,op,n⟩
   ·rw[y_] at XA hz
    have YE:Hid (UI s (c.take (k+1)) []=V):=by show _=_;rw[XA.o];rfl
    clear XA y_;go_wp2
    go_roundw
    case rel=>exact⟨k+1,by omega,by go_num,by rw[YE.o];exact Tj.o,ZI.o⟩
    case measure=>simp[intOf];omega
   rw[y_] at XA hz;clear y_;go_wp2_with fail
   refine (lA V _ var _ (JA Tj.o)).mono ?_;rintro e w3 ⟨rfl,rfl⟩;cases y9:hasB V var
   ·rw[y9] at XA
    have YE:Hid (UI s (c.take (k+1)) []=V++[var]):=by show _=_;rw[XA.o];rfl
    have YO:=Tj.o;clear XA y9;go_wp2_with (at_builtin;refine wpList_append_own _ rfl _ _ 42 rfl w1.heap.size 3 i0 (.int .i64 0) 1 8 underlying42 hi Ze Y_ Zb rfl (by decide) _ _ _ rfl (YO.alloc _) ⟨w3.heap.size,0,none⟩ 1 1 [.int .i64 var] rfl rfl ?c1 ?c2 ?c3 ?c4 ?c5 ?_)
    case c1=>exact Jk w3 var
    case c2=>intro u hu;rcases Zh.1 hu with rfl;rfl
    case c3=>unfold maxLen;omega
    case c4=>omega
    case c5=>have:=ZI.o.size;simp;omega
    intro v4 w4 Zw Z1 _;have S_:Hid (w4.ownsRow w1.heap.size 3 1 v4 (UI s (c.take (k+1)) []).length ((UI s (c.take (k+1)) []).map (Value.int .i64))):=by
     show w4.ownsRow _ _ _ _ _ _;rw[YE.o,ZC,YY];exact Zw
    have Yp:Hid (Bw w1 w4):=(ZI.o.alloc ZI.o.size _).grown Z1 (by have:=ZI.o.size;simp;omega) (λg h=>(YO.lt g h).1)
    clear Zw Z1 YO;go_wp2
    go_roundw
    case rel=>exact⟨k+1,by omega,by go_num,S_.o,Yp.o⟩
    case measure=>simp[intOf];omega
   rw[y9] at XA;have YE:Hid (UI s (c.take (k+1)) []=V):=by show _=_;rw[XA.o];rfl
   clear XA y9;go_wp2
   go_roundw
   case rel=>exact⟨k+1,by omega,by go_num,by rw[YE.o];exact Tj.o,ZI.o⟩
   case measure=>simp[intOf];omega
  have LB:Hid (UI s c []=V):=by show _=_;rw[<-tr.o,Zi (by omega)]
  rw[LB.o] at Zy;clear Z9 tr LB;have Rj:V=[]∨(∃v0,V=[v0])∨2<=V.length:=by
   match V with
   | []=>exact Or.inl rfl
   | [v0]=>exact Or.inr (Or.inl ⟨v0,rfl⟩)
   | _ :: _ :: _=>exact Or.inr (Or.inr (by simp))
  rcases Rj with rfl | ⟨v0,rfl⟩ | h2
  ·have Ys:Hid (R=S3 s.length):=Zy.o
   go_wp2_with fail
   refine (ze s.length (by omega) _).mono ?_
   rintro e w5 ⟨x,rfl,hx,Yd⟩;have HX:=hI hx;have Xx:=hI (ZW.o.trans (Yd.mono ZW.o.size));obtain⟨ax,cx,rfl,_,_⟩:=hx;clear Yd Z3;go_wp2
   go_ret
   rw[Ys.o];exact⟨_,rfl,HX.o,Xx.o⟩
  ·have Ys:Hid (R=V0 s (Q9 c v0)):=Zy.o
   rw[V6] at Yo ⊢;obtain⟨E,hE⟩:∃E,V0 s (Q9 c v0)=E:=⟨_,rfl⟩;have HE:=hI hE;have OI:Hid (E.length=s.length):=by show _=_;rw[<-hE];exact Vs _ _
   rw[hE] at Ys;obtain⟨vb,OJ⟩:∃vb,av=some ⟨vb,0,none⟩:=by
    rcases Yo.o.2 with ⟨h,_⟩ | ⟨g,cap,cur,h,_⟩
    ·cases h
    injection h with h1 _ _
    exact⟨g,h1⟩
   subst OJ;have lk:Hid (∀Y,Bw wr Y->vb<Y.heap.size/\Y.cell? ⟨vb,0,none⟩=some (.int .i64 v0)):=λY hY=>by
    have h:=YZ Yo.o hY;exact⟨(h.lt vb rfl).2,(h.cellAt 0 (by simp)).trans rfl⟩
   obtain⟨W,hW⟩:∃W:World,W=wr:=⟨_,rfl⟩;clear hE Zy;go_wp2_with fail
   rw[<-hW] at Yo ZW lk ⊢;clear hW Z3;go_loopw [7,8] (λo i wr=>∃(j:Nat) (cells:List Value),j<=s.length/\i=.int .i64 j/\UJ W o cells E j wr) (λ_ i _=>s.length - (intOf i).toNat)
   case atStart=>exact⟨0,[],by omega,rfl,UJ.nil _ _⟩
   obtain⟨j,cells,hj,rfl,Pj⟩:=hrel;have OE:=hI Pj;obtain⟨an,cn,rfl⟩:=ZJ Pj.1;have X2:=hI Pj.2.2;clear Pj;by_cases T3:j<s.length
   ·obtain⟨r,hr⟩:∃r,s[j]? = some r:=⟨s[j],by simp[T3]⟩
    have I1:Hid (E[j]? = some (r.filter (Q9 c v0 j))):=by show _=_;rw[<-HE.o];exact K0 _ _ _ _ hr
    have N_:r.length<=6:=Wp.o r (Zz hr);have PZ:Hid (Bw w1 wr):=ZW.o.trans (X2.o.mono ZW.o.size);obtain⟨_,_,Pu,_,Uz⟩:=HV.o _ PZ.o;cases Pu
    obtain⟨ob,oo,xv,Gz,Q_,ocl,Vn⟩:=Uz j r hr;subst Gz;obtain⟨ax,cx,MS,SF,Pn⟩:=Vn;subst MS;unfold maxLen at SF;obtain⟨Kk,Gy⟩:=SF;have NU:Hid (∀Y,Bw wr Y->ob<Y.heap.size/\Y.cell? ⟨ob,oo+j,none⟩=some (.slice ax r.length cx)):=λY hY =>
     ⟨ZQ Q_ hY.size,(hY.cell (p:=⟨ob,oo+j,none⟩) Q_).trans ocl⟩
    have Kj:Hid (∀(i:Nat) (z:Int),r[i]? = some z->∃b off,ax=some ⟨b,off,none⟩/\∀Y,Bw wr Y->b<Y.heap.size/\Y.cell? ⟨b,off+i,none⟩=some (.int .i64 z)):=λi z hz=>by
     obtain⟨b,off,h1,h2,h3⟩:=Pn i z hz;exact⟨b,off,h1,λY hY=>⟨ZQ h2 hY.size,(hY.cell (p:=⟨b,off+i,none⟩) h2).trans h3⟩⟩
    have y8:Hid (∀Y,Bw wr Y->vb<Y.heap.size/\Y.cell? ⟨vb,0,none⟩=some (.int .i64 v0)):=λY hY=>lk.o Y (X2.o.trans (hY.mono X2.o.size))
    have lj:Hid (∀Y,Bw wr Y->LArg Y (.slice b c.length cb) c):=λY hY=>HU.o Y (PZ.o.trans (hY.mono PZ.o.size))
    obtain⟨wo,I2⟩:∃wo:World,wo=wr:=⟨_,rfl⟩;clear hr Uz Pn ocl Q_;go_wp2_with fail
    rw[<-I2] at OE X2 NU Kj y8 lj PZ ⊢;clear I2;go_loopw [9,10] (λo i wr=>∃q:Nat,q<=r.length/\i=.int .i64 q/\wr.ownsRow wo.heap.size 3 1 o ((r.take q).filter (Q9 c v0 j)).length (((r.take q).filter (Q9 c v0 j)).map (Value.int .i64))/\Bw wo wr) (λ_ i _=>r.length - (intOf i).toNat)
    case atStart=>exact⟨0,by omega,rfl,ZH _ _ _ _,Z6 _ _⟩
    obtain⟨q,hq,rfl,Z9,WK⟩:=hrel;have NT:=hI WK;obtain⟨ol,oc⟩:=NU.o _ WK;obtain⟨acc,YX⟩:∃acc,(r.take q).filter (Q9 c v0 j)=acc:=⟨_,rfl⟩;have Uk:=hI YX;have OT:acc.length<=6:=by rw[<-YX];exact ZT (Tz _ _) (by rw[X_];omega)
    rw[YX] at Z9;have Gu:=hI Z9;obtain⟨al,cl,Ki⟩:=ZJ Z9;subst Ki;clear YX;by_cases Kh:q<r.length
    ·obtain⟨z,hz⟩:∃z,r[q]? = some z:=⟨r[q],by simp[Kh]⟩
     obtain⟨bx,ox,WV,QM⟩:=Kj.o q z hz;subst WV;obtain⟨vl,vc⟩:=y8.o _ WK;have Vp:Hid ((r.take (q+1)).filter (Q9 c v0 j)=acc++(if Q9 c v0 j z then [z] else [])):=by show _=_;rw[<-Uk.o];exact zd r _ q z hz
     obtain⟨H0,hH0⟩:∃H0,((j:Int) != v0)=H0:=⟨_,rfl⟩;have HH0:Hid (Q9 c v0 j z=(H0 || oneB c j z)):=by
      show _=_;rw[<-hH0];unfold Q9
      congr 1
      by_cases e:(j:Int)=v0 <;> simp[e]
     have HZC:=hI QM;obtain⟨wp,li⟩:∃wp:World,wp=wr:=⟨_,rfl⟩;clear QM hz WK;go_wp2_with fail
     rw[<-li] at NT Gu ⊢;clear li vl vc ol oc Z9;go_loopw [11,12] (λy i wr=>∃p:Nat,p<=c.length/\i=.int .i64 p/\y=.bool (H0 || oneB (c.take p) j z)/\Bw wp wr) (λ_ i _=>c.length - (intOf i).toNat)
     case atStart=>exact⟨0,by omega,rfl,by simp[oneB],Z6 _ _⟩
     obtain⟨p,hp,rfl,rfl,tq⟩:=hrel;have Ci:=hI tq;have Q8:=hI (NT.o.trans (tq.mono NT.o.size));obtain⟨ol,oc⟩:=NU.o _ Q8.o;obtain⟨zl,zc⟩:=HZC.o _ Q8.o;obtain⟨Hc,tm⟩:∃Hc,(H0 || oneB (c.take p) j z)=Hc:=⟨_,rfl⟩
     have lh:=hI tm
     rw[tm];clear tm tq;by_cases Ez:p<c.length
     ·obtain⟨l,hl⟩:∃l,c[p]? = some l:=⟨c[p],by simp[Ez]⟩
      have XA:Hid ((H0 || oneB (c.take (p+1)) j z)=(Hc || (decide (l.var=(j:Int))&&litV z l))):=by
       show _=_;rw[zUg c j z p l hl,<-Bool.or_assoc,lh.o]
      obtain⟨lb,lo,Tn,ll,k0,k1,k2⟩:=LArg.nth (lj.o _ Q8.o) p l hl;subst Tn;obtain⟨Hn,tk⟩:∃Hn,(H0 || oneB (c.take (p+1)) j z)=Hn:=⟨_,rfl⟩
      have tj:=hI tk
      rw[tk] at XA;clear hl tk;go_wp2_with fail
      cases Hc
      ·by_cases Wy:l.var=(j:Int)
       ·have YE:Hid (Hn=litV z l):=by show _=_;rw[XA.o];simp[Wy]
        obtain⟨vr,op,n⟩:=l
        dsimp only at Wy k0 k1 k2
        subst Wy;have g:((j:Int)==(j:Int))=true:=by simp
        go_region_held3 (λw'=>Bw wr w'/\w'.cell? ⟨lb,lo+p * 3,none⟩=some (.int .i64 (j:Int))/\w'.cell? ⟨lb,lo+p * 3+1,none⟩=some (.int .i64 op)/\w'.cell? ⟨lb,lo+p * 3+2,none⟩=some (.int .i64 n)/\w'.cell? ⟨ob,oo+j,none⟩=some (.slice (some ⟨bx,ox,none⟩) r.length cx)/\w'.cell? ⟨bx,ox+q,none⟩=some (.int .i64 z))
         ((refine (λ(hB:Bw wr _)=>⟨hB,(hB.cell (p:=⟨lb,lo+p * 3,none⟩) ll).trans k0,(hB.cell (p:=⟨lb,lo+p * 3+1,none⟩) ll).trans k1,(hB.cell (p:=⟨lb,lo+p * 3+2,none⟩) ll).trans k2,(hB.cell (p:=⟨ob,oo+j,none⟩) ol).trans oc,(hB.cell (p:=⟨bx,ox+q,none⟩) zl).trans zc⟩:Bw wr _->_) ?_;first | exact (Z6 _ _).drew | exact Ue (by assumption) Yu))
         ((go_at_call 110;refine (Cp ⟨(j:Int),op,n⟩ z _).mono ?_;rintro e w3 ⟨rfl,Yu⟩;have hB3:=Ue (by assumption) Yu))
        have U':=hI (Ci.o.trans (hB3.mono Ci.o.size));clear hB3 Yu ol oc zl zc ll k0 k1 k2;go_wp2
        go_roundw
        case rel=>exact⟨p+1,by omega,by go_num,by rw[tj.o,YE.o],U'.o⟩
        case measure=>simp[intOf];omega
       have YE:Hid (Hn=false):=by show _=_;rw[XA.o];simp[Wy]
       have g:(l.var==(j:Int))=false:=by simpa using Wy
       go_quiet (fail)
       go_wp2
       go_roundw
       case rel=>exact⟨p+1,by omega,by go_num,by rw[tj.o,YE.o],below_drewN Ci.o _⟩
       case measure=>simp[intOf];omega
      have YE:Hid (Hn=true):=by show _=_;rw[XA.o];simp
      go_quiet (fail)
      go_wp2
      go_roundw
      case rel=>exact⟨p+1,by omega,by go_num,by rw[tj.o,YE.o],below_drewN Ci.o _⟩
      case measure=>simp[intOf];omega
     have Df:Hid (Q9 c v0 j z=Hc):=by show _=_;rw[HH0.o,<-lh.o,Zi (by omega)]
     rw[Df.o] at Vp;have YO:=YZ Gu.o Ci.o;have Tj:=hI YO;cases Hc
     ·have TX:Hid ((r.take (q+1)).filter (Q9 c v0 j)=acc):=by
       show _=_;rw[Vp.o];simp
      clear Vp YO;go_wp2
      go_roundw
      case rel=>exact⟨q+1,by omega,by go_num,by rw[TX.o];exact Tj.o,Q8.o⟩
      case measure=>simp[intOf];omega
     have TX:Hid ((r.take (q+1)).filter (Q9 c v0 j)=acc++[z]):=by
      show _=_;rw[Vp.o];simp
     clear Vp;go_wp2_with (at_builtin;refine wpList_append_own _ rfl _ _ 42 rfl wo.heap.size 3 i0 (.int .i64 0) 1 8 underlying42 hi Ze Y_ Zb rfl (by decide) _ _ _ rfl (YO.alloc _) ⟨wr.heap.size,0,none⟩ 1 1 [.int .i64 z] rfl rfl ?c1 ?c2 ?c3 ?c4 ?c5 ?_)
     case c1=>exact Jk wr z
     case c2=>intro u hu;rcases Zh.1 hu with rfl;rfl
     case c3=>unfold maxLen;omega
     case c4=>omega
     case c5=>have:=Q8.o.size;simp;omega
     intro v3 w3 ZX Z1 _;have WL:Hid (w3.ownsRow wo.heap.size 3 1 v3 ((r.take (q+1)).filter (Q9 c v0 j)).length (((r.take (q+1)).filter (Q9 c v0 j)).map (Value.int .i64))):=by
      show w3.ownsRow _ _ _ _ _ _;rw[TX.o,ZC,YY];exact ZX
     have ZM:Hid (Bw wo w3):=(Q8.o.alloc Q8.o.size _).grown Z1 (by have:=Q8.o.size;simp;omega) (λg h=>(YO.lt g h).1)
     clear ZX Z1 YO;go_wp2
     go_roundw
     case rel=>exact⟨q+1,by omega,by go_num,WL.o,ZM.o⟩
     case measure=>simp[intOf];omega
    have Cm:Hid (r.filter (Q9 c v0 j)=acc):=by show _=_;rw[<-Uk.o,Zi (by omega)]
    have QP:Hid (UJ W (.slice an j cn) cells E j wr):=OE.o.below NT.o;have Us:Hid (wr.ownsRow W.heap.size 3 1 (.slice al acc.length cl) acc.length (acc.map (Value.int .i64))):=World.ownsRow.mono Gu.o X2.o.size;have Xr:=QP.o.1;have Y':=QP.o.2.2.size;clear Z9 WK;go_wp2_with (at_builtin;refine Et rfl _ _ rfl W.heap.size _ j cells rfl (Xr.alloc _) wr.heap.size (.slice al acc.length cl) rfl rfl ?c1 ?c2 ?c3 ?_)
    case c1=>exact Zu _ _ _ 0 (by simp)
    case c2=>omega
    case c3=>simp;omega
    intro v3 w3 ZX Z1;have WG:Hid (UJ W v3 (cells++[.slice al acc.length cl]) E (j+1) w3):=(QP.o.below (Z4 _ _)).push (by rw[I1.o,Cm.o]) (Or.inr (Us.o.alloc _)) ZX Z1
    clear ZX Z1 Xr;go_wp2
    go_roundw
    case rel=>exact⟨j+1,_,by omega,by go_num,WG.o⟩
    case measure=>simp[intOf];omega
   have M5:j=E.length:=by have:=OI.o;omega
   have HF:Hid (RArg wr (.slice an j cn) E/\Bw w1 wr):=by
    refine⟨?_,ZW.o.trans (X2.o.mono ZW.o.size)⟩;have h:=OE.o;subst M5;exact h.arg
   clear M5;go_wp2
   go_ret
   rw[Ys.o];exact⟨_,rfl,HF.o.1,HF.o.2⟩
  have Ys:Hid (R=s):=by
   show _=_;rw[Zy.o]
   match V,h2 with
   | _ :: _ :: _,_=>rfl
  have g1:((V.length:Int)==0)=false:=by simp only[beq_eq_false_iff_ne,ne_eq];omega
  have g2:(V.length==0)=false:=by simp only[beq_eq_false_iff_ne,ne_eq];omega
  have g3:¬V=[]:=λh=>by rw[h] at h2;simp at h2
  have g4:decide ((1:Int)<(V.length:Int))=true:=decide_eq_true (by omega)
  have g5:decide (1<V.length)=true:=decide_eq_true (by omega)
  have HB:Hid (RArg wr (.slice a s.length ca) s):=HV.o _ Z3;clear Z3;go_wp2
  go_ret
  rw[Ys.o];exact⟨_,rfl,HB.o,ZW.o⟩
 have Zy:Hid (R=s):=by show _=_;rw[<-HR.o];unfold Er;rw[hf];rfl
 have tu:Hid (∀Y,RArg Y (.slice a s.length ca) s->Calls prog 93 #[.slice a s.length ca] Y λe w'=>e=.returned (.bool true)/\w'=Y):=λY hY=>by
  have:=Kf s _ Y hY;rw[hf] at this;exact this
 clear hf HR;go_enter func161,ntmps161
 go_wp2_with fail
 refine (tu.o w (HV.o _ (Z6 _ _))).mono ?_;rintro e w1 ⟨rfl,rfl⟩;go_wp2
 go_ret
 rw[Zy.o];exact⟨_,rfl,HV.o _ (Z6 _ _),Z6 _ _⟩
theorem zLa (s t:Sto) (v u:Value) (w:World) (hv:RArg w v s) (hu:RArg w u t) :
 Calls prog 162 #[v,u] w λe w'=>e=.returned (.bool (decide (s=t)))/\∃n,w'=w.drewN n:=by
 obtain⟨a,c,rfl,hm,hr⟩:=hv;obtain⟨a',c',rfl,SI,PD⟩:=hu;have HV:=hI hr;have DK:=hI PD;obtain⟨R,hR⟩:∃R,decide (s=t)=R:=⟨_,rfl⟩;rw[hR];have HR:=hI hR;unfold maxLen at hm SI;obtain⟨Y0,hm⟩:=hm;obtain⟨KZ,SI⟩:=SI;clear hr PD hR;by_cases hl:s.length=t.length
 ·have HL:=hI hl
  have g0:((s.length:Int) != (t.length:Int))=false:=by simp[hl]
  clear hl;go_enter func162,ntmps162
  go_wp2_with fail
  go_loopw [5] (λi wr=>∃m:Nat,m<=s.length/\i=.int .i64 m/\Hid (s.take m=t.take m)/\∃n,wr=w.drewN n) (λi _=>s.length - (intOf i).toNat)
  case atStart=>exact⟨0,by omega,rfl,rfl,0,rfl⟩
  obtain⟨m,Uo,rfl,hall,nq,rfl⟩:=hrel;by_cases Z7:m<s.length
  ·have UR:m<t.length:=by rw[<-HL.o];exact Z7
   obtain⟨x,hx⟩:∃x,s[m]? = some x:=⟨s[m],by simp[Z7]⟩
   obtain⟨y,hy⟩:∃y,t[m]? = some y:=⟨t[m],by simp[UR]⟩
   obtain⟨b,off,vx,ha,hb,hc,Vn⟩:=HV.o m x hx;obtain⟨b',off',vy,DJ,XI,hd,lg⟩:=DK.o m y hy;have HX:=hI hx;have HY:=hI hy;have NX:=hI Vn;have HIY:=hI lg;obtain⟨a5,c5,rfl,_,_⟩:=Vn;obtain⟨a6,c6,rfl,_,_⟩:=lg;subst ha;subst DJ;clear hx hy;have HS:Hid (∀p q,Calls prog 32 #[.slice a5 x.length c5,.slice a6 y.length c6] (w.drewN (p+q)) λe w'=>e=.returned (.bool (decide (x=y)))/\∃n,w'=w.drewN (p+n)):=by
    intro p q;refine (lU x y _ _ (w.drewN (p+q)) NX.o HIY.o).mono ?_;rintro e w' ⟨rfl,n,rfl⟩;exact⟨rfl,q+n,by rw[Iq,UU]⟩
   by_cases hq:x=y
   ·have YA:decide (x=y)=true:=decide_eq_true hq
    have HN:Hid (s.take (m+1)=t.take (m+1)):=lZ s t m x hall.o HX.o (by rw[hq];exact HY.o)
    rw[YA] at HS;clear hq YA;go_wp2
    go_quiet ((go_at_call 32;exact HS.o _ _))
    go_wp2
    go_roundw
    case rel=>exact⟨m+1,by omega,by go_num,HN,_,rfl⟩
    case measure=>simp[intOf];omega
   have YA:decide (x=y)=false:=decide_eq_false hq;have HN:Hid (R=false):=by rw[<-HR.o];exact decide_eq_false (lW s t m x y HX.o HY.o hq)
   rw[YA] at HS;clear hq YA;go_wp2
   go_quiet ((go_at_call 32;exact HS.o _ _))
   go_wp2
   go_ret
   exact⟨ZD HN.o.symm,_,Iq _ _ _⟩
  have HN:Hid (R=true):=by rw[<-HR.o];exact decide_eq_true (lY s t m hall.o Z7 HL.o)
  go_wp2
  go_ret
  exact⟨ZD HN.o.symm,_,rfl⟩
 have HN:Hid (R=false):=by rw[<-HR.o];exact decide_eq_false (λh=>hl (by rw[h]))
 have g0:((s.length:Int) != (t.length:Int))=true:=by simp;omega
 clear hl;go_enter func162,ntmps162
 go_wp2
 go_ret
 exact⟨ZD HN.o.symm,0,rfl⟩
theorem lf (t:Sto):S3 t.length=Ts t:=by
 unfold S3 Ts;refine List.ext_getElem (by simp) λi h1 h2=>?_
 simp
theorem zMx {t s:Sto} (h:zC4 t s) (hs:∀r∈s,r.length<=6):∀r∈t,r.length<=6:=λr hr=>by
 obtain⟨k,hk⟩:=Wm.1 hr;have hl:k<s.length:=by rw[<-h.1];exact (ZN.1 hk).1
 exact ZT (h.2 k r s[k] hk (ZA hl)).length_le (hs _ (Qs hl))
theorem zSk (t:Sto) (d:Cla) (h:Wi t d≠t):T5 (Wi t d)<T5 t:=by
 obtain⟨h1,h2⟩:=pw _ _ (wV t d);rcases Nat.lt_or_ge (T5 (Wi t d)) (T5 t) with h3 | h3
 ·exact h3
 exact absurd (h2 (by omega)) h
open Classical in
noncomputable def zHG (p:Nat->Prop):Nat:=if h:∃n,p n/\∀k,p k->n<=k then Classical.choose h else 0
theorem y7 {p:Nat->Prop} (h:∃n,p n):∃n,p n/\∀k,p k->n<=k:=by
 obtain⟨n,hn⟩:=h
 induction n using Nat.strongRecOn with
 | _ n ih =>
   by_cases hq:∃k,k<n/\p k
   ·obtain⟨k,hk,hp⟩:=hq
    exact ih k hk hp
   exact⟨n,hn,λk hk=>Xz λZ7=>hq ⟨k,by omega,hk⟩⟩
theorem zOX {p:Nat->Prop} (h:∃n,p n):p (zHG p):=by
 unfold zHG;rw[dif_pos (y7 h)];exact (NC (y7 h)).1
theorem ld {p:Nat->Prop} {n:Nat} (h:p n):zHG p<=n:=by
 unfold zHG;rw[dif_pos (y7 ⟨n,h⟩)];exact (NC (y7 ⟨n,h⟩)).2 n h
def FxI (l:List Cla) (s:Sto) (W:World) (o y:Value) (wr:World) (n:Nat):Prop :=
 ∃(t:Sto) (ch:Bool),y=.bool ch/\RArg wr o t/\JC (KV l) s t/\zC4 t s/\(ch=false->∀d∈l,Wi t d=t)/\Bw W wr/\n=2 * T5 t+(if ch then 1 else 0)
theorem zUh (m:Mod) (vs cs:Value) (s:Sto) (S1:s.length<=6) (ZS:∀r∈s,r.length<=6) (l:List Cla) (MM:∀d∈l,d.length<=40) (VO:∀d∈l,∀x∈d,0<=x.var/\x.var<(s.length:Int)) (v u:Value) (w:World) (Y8:MArg w vs cs m) (hv:RArg w v s) (hu:WQ w u l) :
 Calls prog 97 #[modV vs cs m,v,.bool false,u] w λe w'=>∃x T,e=.returned x/\RArg w' x T/\DM (KV l) s T/\Bw w w':=by
 have HV:=hI hv;have HU:Hid (∀Y,Bw w Y->WQ Y u l):=λY h=>WQ.below h hu
 have Pi:=hI VO;have Wp:=hI ZS;have ti:=hI MM;obtain⟨⟨a1,c1,rfl,_,_⟩,a2,c2,rfl,⟨Wk,Vk⟩,_⟩:=Y8;obtain⟨b,cb,rfl,Re,_⟩:=hu;unfold maxLen at Re Vk;obtain⟨Co,Cn⟩:=Re;unfold modV;clear VO ZS MM hv;go_enter func97,ntmps97
 go_wp2_with fail
 have Zt:Hid (Bw w (w.alloc (.cells #[.slice a1 m.vars.length c1,.slice a2 m.cons.length c2,.int .i64 m.goal,.int .i64 m.var] 25))):=Z4 _ _;have XL:Hid ((w.alloc (.cells #[.slice a1 m.vars.length c1,.slice a2 m.cons.length c2,.int .i64 m.goal,.int .i64 m.var] 25)).heap[w.heap.size]? = some (.cells #[.slice a1 m.vars.length c1,.slice a2 m.cons.length c2,.int .i64 m.goal,.int .i64 m.var] 25)):=heap_alloc_new _ _;obtain⟨W,hW⟩:∃W,w.alloc (.cells #[.slice a1 m.vars.length c1,.slice a2 m.cons.length c2,.int .i64 m.goal,.int .i64 m.var] 25)=W:=⟨_,rfl⟩;rw[hW] at Zt XL ⊢;clear hW;have HC:Hid (∀Y,Bw W Y->w.heap.size<Y.heap.size/\Y.cell? ⟨w.heap.size,1,none⟩=some (.slice a2 m.cons.length c2)):=λY hY=>by
  have hN:=(hY.block _ (Z8.1 XL.o).1).trans XL.o;exact⟨(Z8.1 hN).1,Z_ hN 1 _ rfl⟩
 go_loopw [1,9] (λo y wr=>∃n,FxI l s W o y wr n) (λo y wr=>zHG (FxI l s W o y wr))
 case atStart=>exact⟨_,s,true,rfl,RArg.below Zt.o HV.o,eh _ _,zC4.refl _,(λh=>by cases h),Z6 _ _,rfl⟩
 have Sy:=zOX hrel;obtain⟨NN,tg⟩:∃NN,zHG (FxI l s W u1 u9 wr)=NN:=⟨_,rfl⟩;have R6:=hI tg;rw[tg] at Sy;obtain⟨t,ch,rfl,la,k_,CD,XD,Z3,hn⟩:=Sy;have I':=hI la;have Yo:=hI k_;have EE:=hI CD;have XR:=hI XD;have ZW:=hI Z3;have HN:=hI hn
 obtain⟨at_,ct_,rfl,td,_⟩:=la;unfold maxLen at td;obtain⟨hmt1,hmt2⟩:=td;have Jn:=hI CD.1;clear hrel tg k_ CD XD hn;cases ch
 ·have HF:Hid (∀d∈l,Wi t d=t):=XR.o rfl
  clear XR;go_wp2_with fail
  refine (Kf t _ _ I'.o).mono ?_;rintro e w2 ⟨rfl,rfl⟩;cases hf:zAI t
  ·have I0:=hI hf
   clear hf;go_wp2
   go_ret
   exact⟨_,t,rfl,I'.o,ef Yo.o I0.o (λf hf=>by obtain⟨d,hd,rfl⟩:=Zj.1 hf;exact HF.o d hd),Zt.o.trans (ZW.o.mono Zt.o.size)⟩
  have I0:=hI hf;clear hf;go_wp2_with fail
  refine (ze t.length (by have:=Jn.o;omega) _).mono ?_
  rintro e w5 ⟨x,rfl,hx,Yd⟩;have HX:=hI hx;have Xx:Hid (Bw w w5):=Zt.o.trans ((ZW.o.trans (Yd.mono ZW.o.size)).mono Zt.o.size);obtain⟨ax,cx,rfl,_,_⟩:=hx;clear Yd;go_wp2
  go_ret
  exact⟨_,_,rfl,HX.o,by rw[lf];exact pu Yo.o I0.o (oX l),Xx.o⟩
 clear XR;go_wp2_with fail
 refine (Kf t _ _ I'.o).mono ?_;rintro e w2 ⟨rfl,rfl⟩;cases hf:zAI t
 ·have I0:=hI hf
  clear hf;have tc:IntKind.i64.wrap ((l.length:Int) - 1)=(l.length:Int) - 1:=by rw[IntKind.wrap_i64];omega
  go_wp2_with fail
  go_loopw [1,9,10] (λo y i wr=>∃(t':Sto) (ch':Bool) (k:Nat),k<=l.length/\i=.int .i64 ((k:Int) - 1)/\y=.bool ch'/\Hid (RArg wr o t'/\JC (KV l) s t'/\zC4 t' s/\(ch'=false->t'=t/\∀(j:Nat) (d:Cla),k<=j->l[j]? = some d->Wi t d=t)/\(ch'=true->T5 t'<T5 t)/\Bw W wr)) (λ_ _ i _=>(intOf i+1).toNat)
  case atStart=>exact⟨t,false,l.length,Z2 _,rfl,rfl,I'.o,Yo.o,EE.o,λ_=>⟨rfl,λj d hj hd=>by have:=(ZN.1 hd).1;omega⟩,(λh=>by cases h),ZW.o⟩
  obtain⟨t',ch',k,hk,rfl,rfl,HI⟩:=hrel;obtain⟨kZ,Xc,tb,kY,CU,WV⟩:=HI.o;have Ep:=hI kZ;have Cx:=hI Xc;have Eo:=hI tb;have Ch:=hI kY;have En:=hI CU;have X2:=hI WV;have QN:=hI tb.1;obtain⟨ax_,cx_,rfl,SF,_⟩:=kZ;unfold maxLen at SF;obtain⟨Kk,Gy⟩:=SF;clear HI Xc tb kY CU WV;have Q7:Hid ((∀d∈l,ch'=false->Wi t' d=t')->FxI l s W (.slice ax_ t'.length cx_) (.bool ch') wr (2 * T5 t'+(if ch' then 1 else 0))/\2 * T5 t'+(if ch' then 1 else 0)<NN):=λhall=>by
   refine⟨⟨t',ch',rfl,Ep.o,Cx.o,Eo.o,λhc d hd=>hall d hd hc,X2.o,rfl⟩,?_⟩
   rw[HN.o];cases ch'
   ·rw[(Ch.o rfl).1];simp
   have:=En.o rfl;simp;omega
  cases k with
  | zero =>
    have Ur:Hid (FxI l s W (.slice ax_ t'.length cx_) (.bool ch') wr (2 * T5 t'+(if ch' then 1 else 0))/\zHG (FxI l s W (.slice ax_ t'.length cx_) (.bool ch') wr)<NN):=by
     obtain⟨h1,h2⟩:=Q7.o λd hd hc=>by
      obtain⟨e,h3⟩:=Ch.o hc;obtain⟨j,hj⟩:=Wm.1 hd;rw[e];exact h3 j d (YI _) hj
     exact⟨h1,UW (ld h1) h2⟩
    clear Q7;have hz9:((0:Nat):Int) - 1=-1:=rfl;rw[hz9];have ML:Hid (Bw W wr):=X2.o;obtain⟨d0,d1⟩:=HC.o _ ML.o;have zt:IntKind.i64.wrap ((m.cons.length:Int) - 1)=(m.cons.length:Int) - 1:=by rw[IntKind.wrap_i64];omega
    go_wp2_with fail
    obtain⟨wz,Ti⟩:∃wz:World,wz=wr:=⟨_,rfl⟩;rw[<-Ti] at Ep ML ⊢;go_loopw [1,9,12] (λo y i wr=>o=.slice ax_ t'.length cx_/\y=.bool ch'/\i=.int .i64 ((m.cons.length:Int) - 1)/\wr=wz) (λ_ _ _ _=>0)
    case atStart=>exact⟨rfl,rfl,rfl,rfl⟩
    obtain⟨rfl,rfl,rfl,rfl⟩:=hrel;cases hd:decide ((0:Int)<=(m.cons.length:Int) - 1)
    all_goals go_wp2_with fail
    all_goals exact⟨⟨_,Ur.o.1⟩,by rw[R6.o];exact Ur.o.2⟩
  | succ k =>
    have YD:((k+1:Nat):Int) - 1=(k:Int):=by omega
    rw[YD];clear YD;have g0:decide ((0:Int)<=(k:Int))=true:=decide_eq_true (by omega)
    go_wp2_with fail
    refine (Kf t' _ _ Ep.o).mono ?_;rintro e w3 ⟨rfl,rfl⟩;cases Ye:zAI t'
    ·obtain⟨d,hd⟩:∃d,l[k]? = some d:=⟨l[k],by simp[show k<l.length by omega]⟩
     have yZ:=Zz hd;have Y7:Hid (Bw w w3):=Zt.o.trans (X2.o.mono Zt.o.size);obtain⟨_,_,Pu,_,Uz⟩:=HU.o _ Y7.o;cases Pu
     obtain⟨lb,lo,xv,Tn,Pk,lc,Vn⟩:=Uz k d hd;subst Tn;have NX:=hI Vn;obtain⟨a5,c5,rfl,_,_⟩:=Vn;have EW:=zSj t' (by have:=QN.o;omega) (zMx Eo.o Wp.o) d (ti.o d yZ) (λx hx=>by rw[QN.o];exact Pi.o d yZ x hx) _ _ w3 Ep.o NX.o
     have HUM:Hid ((λs=>Wi s d)∈KV l):=Zj.2 ⟨d,yZ,rfl⟩
     have HD:=hI hd;have TM:(k:Int)<(l.length:Int):=by omega
     have zO:IntKind.i64.wrap ((k:Int) - 1)=(k:Int) - 1:=by rw[IntKind.wrap_i64];omega
     rw[zUf] at EW;obtain⟨U,hU⟩:∃U,Wi t' d=U:=⟨_,rfl⟩;have Cg:=hI hU;rw[hU] at EW;clear hd yZ Uz Ye hU;go_wp2_with fail
     refine EW.mono ?_;rintro e w4 ⟨x,rfl,hx,Zd⟩;have EA:=hI hx;obtain⟨a6,c6,rfl,_,_⟩:=hx;have Yp:=hI (X2.o.trans (Zd.mono X2.o.size));have Wq:Hid (RArg w4 (.slice ax_ t'.length cx_) t'):=RArg.below Zd Ep.o;clear Zd lc Pk EW;go_wp2_with fail
     refine (zLa t' U _ _ _ Wq.o EA.o).mono ?_;rintro e w5 ⟨rfl,n5,rfl⟩;have Xx:=(show Hid (Bw W _) from below_drewN Yp.o n5)
     by_cases hq:t'=U
     ·have YA:decide (t'=U)=true:=decide_eq_true hq
      have ta:Hid (ch'=false->t'=t/\∀(j:Nat) (d:Cla),k<=j->l[j]? = some d->Wi t d=t):=λhc=>by
       obtain⟨e1,e2⟩:=Ch.o hc;refine⟨e1,λj d2 hj hd2=>?_⟩
       by_cases T1:j=k
       ·subst T1
        rw[HD.o] at hd2;cases hd2
        rw[<-e1,Cg.o];exact hq.symm
       exact e2 j d2 (by omega) hd2
      rw[YA];clear hq YA Q7;go_wp2
      go_roundw
      case rel=>exact⟨t',ch',k,by omega,by rfl,rfl,RArg.below (below_drewN (Z6 _ _) _) Wq.o,Cx.o,Eo.o,ta.o,En.o,Xx.o⟩
      case measure=>simp[intOf] <;> omega
     have YA:decide (t'=U)=false:=decide_eq_false hq;have HOU:Hid (JC (KV l) s U):=by
      have:=eg Cx.o _ HUM.o (pr d);rw[Cg.o] at this;exact this
     have HSU:Hid (zC4 U s):=by
      have:=wV t' d;rw[Cg.o] at this;exact this.trans Eo.o
     have HLU:Hid (T5 U<T5 t):=by
      have h1:=zSk t' d (by rw[Cg.o];exact λe=>hq e.symm)
      rw[Cg.o] at h1;show _<_;cases ch'
      ·rw[(Ch.o rfl).1] at h1;exact h1
      have:=En.o rfl;omega
     rw[YA];clear hq YA Q7;go_wp2
     go_roundw
     case rel=>exact⟨U,true,k,by omega,by rfl,rfl,RArg.below (below_drewN (Z6 _ _) _) EA.o,HOU.o,HSU.o,(λh=>by cases h),λ_=>HLU.o,Xx.o⟩
     case measure=>simp[intOf] <;> omega
    have Ur:Hid (FxI l s W (.slice ax_ t'.length cx_) (.bool ch') w3 (2 * T5 t'+(if ch' then 1 else 0))/\zHG (FxI l s W (.slice ax_ t'.length cx_) (.bool ch') w3)<NN):=by
     obtain⟨h1,h2⟩:=Q7.o λd hd hc=>by
      obtain⟨e,_⟩:=Ch.o hc;rw[e,I0.o] at Ye;cases Ye
     exact⟨h1,UW (ld h1) h2⟩
    clear Q7 Ye;have ML:Hid (Bw W w3):=X2.o;obtain⟨d0,d1⟩:=HC.o _ ML.o;have zt:IntKind.i64.wrap ((m.cons.length:Int) - 1)=(m.cons.length:Int) - 1:=by rw[IntKind.wrap_i64];omega
    go_wp2_with fail
    obtain⟨wz,Ti⟩:∃wz:World,wz=w3:=⟨_,rfl⟩;rw[<-Ti] at Ep ML ⊢;go_loopw [1,9,12] (λo y i wr=>o=.slice ax_ t'.length cx_/\y=.bool ch'/\i=.int .i64 ((m.cons.length:Int) - 1)/\wr=wz) (λ_ _ _ _=>0)
    case atStart=>exact⟨rfl,rfl,rfl,rfl⟩
    obtain⟨rfl,rfl,rfl,rfl⟩:=hrel;cases hd:decide ((0:Int)<=(m.cons.length:Int) - 1)
    all_goals go_wp2_with fail
    all_goals exact⟨⟨_,Ur.o.1⟩,by rw[R6.o];exact Ur.o.2⟩
 have I0:=hI hf;clear hf;go_wp2_with fail
 refine (Kf t _ _ I'.o).mono ?_;rintro e w2 ⟨rfl,rfl⟩;rw[I0.o];go_wp2_with fail
 refine (ze t.length (by have:=Jn.o;omega) _).mono ?_
 rintro e w5 ⟨x,rfl,hx,Yd⟩;have HX:=hI hx;have Xx:Hid (Bw w w5):=Zt.o.trans ((ZW.o.trans (Yd.mono ZW.o.size)).mono Zt.o.size);obtain⟨ax,cx,rfl,_,_⟩:=hx;clear Yd;go_wp2
 go_ret
 exact⟨_,_,rfl,HX.o,by rw[lf];exact pu Yo.o I0.o (oX l),Xx.o⟩
end Go.Proofs.YtndcpnlaadikoaaGreatDoor
