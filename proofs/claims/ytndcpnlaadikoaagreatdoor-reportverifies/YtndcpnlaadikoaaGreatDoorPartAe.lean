/- What the proof leans on, part 5. -/
import Derived.Test.YtndcpnlaadikoaaGreatDoorPartAd
set_option maxRecDepth 100000
set_option maxHeartbeats 1600000
open Go.Proofs.Tryz
namespace Go.Proofs.YtndcpnlaadikoaaGreatDoor
open Go.RowKit
def Zx (vals:List Int) (v:Int):Int:=vals.getD v.toNat 0
def ownV (vars vals:List Int):List Int:=vars.map (Zx vals)
def sumV (consts own:List Int):Int:=(List.zipWith (· * ·) consts own).sum
def litB (vals:List Int) (l:MLit):Bool:=litV (Zx vals l.var) l
def maxV:List Int->Int
 | []=>0
 | a :: r=>r.foldl max a
def YL (c:MCon) (vals:List Int):Bool :=
 if c.kind=1 then decide (sumV c.consts (ownV c.vars vals)<=c.n)
 else if c.kind=2 then sumV c.consts (ownV c.vars vals)==c.n
 else if c.kind=3 then sumV c.consts (ownV c.vars vals) != c.n
 else if c.kind=4 then decide (ownV c.vars vals).Nodup
 else if c.kind=5 then decide (0<=(ownV c.vars vals).getD 0 0)&&(decide ((ownV c.vars vals).getD 0 0<c.consts.length)&&(c.consts.getD ((ownV c.vars vals).getD 0 0).toNat 0==(ownV c.vars vals).getD 1 0))
 else if c.kind=6 then c.rows.any λr=>decide (r=ownV c.vars vals)
 else if c.kind=7 then (ownV c.vars vals).getD 0 0 * (ownV c.vars vals).getD 1 0==(ownV c.vars vals).getD 2 0
 else if c.kind=8 then (ownV c.vars vals).getD 0 0==maxV ((ownV c.vars vals).drop 1)
 else if c.kind=9 then c.lits.any (litB vals)
 else if c.kind=10 then (ownV c.vars vals).getD 0 0==(if litB vals (c.lits.getD 0 ⟨0,0,0⟩) then 1 else 0)
 else false
theorem Ia (vals:List Int) (k:Nat) (x:Int) (h:vals[k]? = some x):Zx vals (k:Int)=x:=by
 unfold Zx;rw[YK,ZO,h];rfl
theorem ec (b:Bool) (w:World):Calls prog 171 #[.bool b] w λe w'=>e=.returned (.int .i64 (if b then 1 else 0))/\w'=w:=by
 cases b
 ·go_enter func171,ntmps171
  go_wp2
  go_ret
  exact⟨rfl,rfl⟩
 go_enter func171,ntmps171
 go_wp2
 go_ret
 exact⟨rfl,rfl⟩
theorem E_:(prog.info? 3).map (λi=>(i.zero,i.size,i.bytes))=some (some (.int .i64 0),1,8):=by kernel_rfl
theorem DL:prog.underlying 42=some (.slice 3):=by kernel_rfl
theorem pq (n:Nat) (hn:n<=1000) (w:World):∃w',Sem.run prog (Instr.makeSlice 42 (.int .i64 (n:Int)) (.int .i64 (n:Int))) w=.ok (.slice (some ⟨w.heap.size,0,none⟩) n n) w' /\
 w'.ownsRow w.heap.size 3 1 (.slice (some ⟨w.heap.size,0,none⟩) n n) n (List.replicate n (.int .i64 0))/\Bw w w':=by
 obtain⟨i0,hi,Ze,Y_,Zb⟩:=info_parts E_;obtain⟨w',XW,Z9,hg⟩:=run_makeSlice_full w w.heap.size 42 3 i0 (.int .i64 0) 1 DL hi Ze Y_ .i64 .i64 n (by omega) (by rw[Zb];omega) (by unfold maxLen;omega) (Z2 _)
 refine⟨w',XW,?_,(Z6 _ _).grown hg (Z2 _) (λk h=>by cases h)⟩
 have:(Value.int .i64 0).cells=#[.int .i64 0]:=rfl;rw[this,Nat.mul_one,toList_madeCells_one] at Z9;exact Z9
theorem JA {w:World} {base:Nat} {v:Value} {r:List Int} (h:w.ownsRow base 3 1 v r.length (r.map (Value.int .i64))):IArg w v r:=by
 rcases h.2 with ⟨rfl,hn⟩ | ⟨g,cap,cur,rfl,hg,hh,X',Yb,_,_⟩
 ·have:r=[]:=Xf hn
  subst this;exact⟨none,0,rfl,⟨Z2 _,YI _⟩,λi z hz=>by simp at hz⟩
 refine⟨_,cap,rfl,⟨X',Yb⟩,λi z hz=>⟨g,0,rfl,(Z8.1 hh).1,?_⟩⟩
 have hi:i<r.length:=(ZN.1 hz).1;rw[Zn,h.cellAt i (by omega),YN,hz];rfl
theorem ea (vars vals:List Int) (u v:Value) (w:World) (hu:IArg w u vars) (hv:IArg w v vals) (hn:vars.length<=4) (hr:∀x∈vars,0<=x/\x<vals.length) :
 Calls prog 163 #[u,v] w λe w'=>∃x,e=.returned x/\IArg w' x (ownV vars vals)/\Bw w w':=by
 obtain⟨a,c,rfl,hm,h1⟩:=hu;obtain⟨a',c',rfl,SI,h2⟩:=hv;have HU:=hI h1;have HV:=hI h2;have HR:=hI hr;unfold maxLen at hm SI;obtain⟨Y0,hm⟩:=hm;obtain⟨KZ,SI⟩:=SI;obtain⟨wm,XW,Z9,Ta⟩:=pq vars.length (by omega) w
 have X4:=hI Z9;have Vq:=hI Ta;clear h1 h2 hr Z9 Ta;go_enter func163,ntmps163
 go_wp2_with fail
 clear XW;go_loopw [13] (λi wr=>∃(k:Nat) (cells:List Value),k<=vars.length/\i=.int .i64 k/\wr.ownsRow w.heap.size 3 1 (.slice (some ⟨w.heap.size,0,none⟩) vars.length vars.length) vars.length cells/\Hid (cells.take k=((ownV vars vals).take k).map (Value.int .i64))/\Bw w wr) (λi _=>vars.length - (intOf i).toNat)
 case atStart=>exact⟨0,_,by omega,rfl,X4.o,rfl,Vq.o⟩
 obtain⟨k,cells,hk,rfl,Z9,Od,Z3⟩:=hrel;by_cases Z7:k<vars.length
 ·obtain⟨z,hz⟩:∃z,vars[k]? = some z:=⟨vars[k],by simp[Z7]⟩
  obtain⟨Ze,Y_⟩:=HR.o z (Zz hz);obtain⟨j,rfl⟩:∃j:Nat,z=(j:Int):=⟨z.toNat,by omega⟩
  have OW:j<vals.length:=by omega
  obtain⟨x,hx⟩:∃x,vals[j]? = some x:=⟨vals[j],by simp[OW]⟩
  have HO:Hid ((ownV vars vals)[k]? = some x):=by show _=_;unfold ownV;rw[YN,hz];show some _=_;rw[Ia vals j x hx]
  obtain⟨b,off,rfl,hb,hc⟩:=HU.o k _ hz;obtain⟨b',off',rfl,XI,hd⟩:=HV.o j x hx;have e1:=(Z3.cell (p:=⟨b,off+k,none⟩) hb).trans hc;have e2:=(Z3.cell (p:=⟨b',off'+j,none⟩) XI).trans hd;have Zr:cells.length=vars.length:=by have:=Z9.1;omega
  obtain⟨y,hy⟩:∃y,cells[k]? = some y:=⟨cells[k]'(by omega),by simp⟩
  have e3:wr.cell? ⟨w.heap.size,k,none⟩=some y:=by rw[Z9.cellAt k (by omega)];exact hy
  have e4:=Z9.frozenAt k;have Yx:Hid ((wr.setCell ⟨w.heap.size,k,none⟩ (.int .i64 x)).ownsRow w.heap.size 3 1 (.slice (some ⟨w.heap.size,0,none⟩) vars.length vars.length) vars.length (cells.set k (.int .i64 x))):=(Z9.stored k _).1;have Vp:Hid ((cells.set k (.int .i64 x)).take (k+1)=((ownV vars vals).take (k+1)).map (Value.int .i64)):=by
   show _=_;rw[Y1,Y1,HO.o,YY,Uu (by omega),List.take_set_of_le (Z2 _),Od.o];rfl
  have ZW:Hid (Bw w (wr.setCell ⟨w.heap.size,k,none⟩ (.int .i64 x))):=Z3.setCell (Z2 _) _;clear hz hx hc hd hb XI Z9 Od Z3 Ze Y_ Zr hy;go_wp2
  go_roundw
  case rel=>exact⟨k+1,_,by omega,by go_num,Yx.o,Vp,ZW.o⟩
  case measure=>simp[intOf];omega
 have PG:k=vars.length:=by omega
 have Zr:cells.length=vars.length:=by have:=Z9.1;omega
 have HC:Hid (cells=(ownV vars vals).map (Value.int .i64)):=by
  have h:=Od.o;rwa [Zi (by omega),Zi (by unfold ownV;simp;omega)] at h
 have HF:Hid (IArg wr (.slice (some ⟨w.heap.size,0,none⟩) vars.length vars.length) (ownV vars vals)):=by
  rw[HC.o] at Z9;have:vars.length=(ownV vars vals).length:=by simp[ownV]
  rw[this] at Z9 ⊢;exact JA Z9
 clear PG Zr Z9 Od;go_wp2
 go_ret
 exact⟨_,rfl,HF.o,Z3⟩
theorem Au (x y:Int) (h1:-1000<=x) (h2:x<=1000) (h3:-50<=y) (h4:y<=50):-50000<=x * y/\x * y<=50000:=by
 have key:(x * y).natAbs<=50000:=by
  rw[Int.natAbs_mul];have:=Nat.mul_le_mul (show x.natAbs<=1000 by omega) (show y.natAbs<=50 by omega)
  omega
 omega
def sumK (consts own:List Int) (k:Nat):Int:=((List.zipWith (· * ·) consts own).take k).sum
theorem po (consts own:List Int) (k:Nat) (x y:Int) (hx:consts[k]? = some x) (hy:own[k]? = some y):sumK consts own (k+1)=sumK consts own k+x * y:=by
 unfold sumK;rw[Y1,List.getElem?_zipWith,hx,hy];simp[List.sum_append]
theorem wT (consts own:List Int) (u v:Value) (w:World) (hu:IArg w u consts) (hv:IArg w v own) (hl:consts.length=own.length) (hn:consts.length<=8)
 (hc:∀x∈consts,-1000<=x/\x<=1000) (ho:∀x∈own,-50<=x/\x<=50) :
 Calls prog 164 #[u,v] w λe w'=>e=.returned (.int .i64 (sumV consts own))/\w'=w:=by
 obtain⟨a,c,rfl,hm,h1⟩:=hu;obtain⟨a',c',rfl,SI,h2⟩:=hv;have HU:=hI h1;have HV:=hI h2;have HL:=hI hl;have HC:=hI hc;have HO:=hI ho;obtain⟨R,hR⟩:∃R,sumV consts own=R:=⟨_,rfl⟩;rw[hR];have HR:=hI hR;unfold maxLen at hm SI;obtain⟨Y0,hm⟩:=hm;obtain⟨KZ,SI⟩:=SI;clear h1 h2 hl hc ho hR;go_enter func164,ntmps164
 go_wp2_with fail
 go_loop [5,10] (λt i=>∃(k:Nat) (s:Int),k<=consts.length/\i=.int .i64 k/\t=.int .i64 s/\Hid (sumK consts own k=s)/\(-50000 * (k:Int)<=s/\s<=50000 * (k:Int))) (λ_ i=>consts.length - (intOf i).toNat)
 case atStart=>exact⟨0,0,by omega,rfl,rfl,rfl,by omega⟩
 obtain⟨k,s,hk,rfl,rfl,hs,Z5,ZY⟩:=hrel;by_cases Z7:k<consts.length
 ·have UR:k<own.length:=by rw[<-HL.o];exact Z7
  obtain⟨x,hx⟩:∃x,consts[k]? = some x:=⟨consts[k],by simp[Z7]⟩
  obtain⟨y,hy⟩:∃y,own[k]? = some y:=⟨own[k],by simp[UR]⟩
  have HX:Hid (sumK consts own (k+1)=s+x * y):=by show _=_;rw[po consts own k x y hx hy,hs.o]
  obtain⟨b,off,rfl,hb,hc⟩:=HU.o k x hx;obtain⟨b',off',rfl,XI,hd⟩:=HV.o k y hy;have OV:=HC.o x (Zz hx);have Nn:=HO.o y (Zz hy);obtain⟨Vh,PF⟩:=Au x y OV.1 OV.2 Nn.1 Nn.2;clear hx hy hb XI OV Nn;go_wp2
  go_round
  case rel=>exact⟨k+1,s+x * y,by omega,by go_num,by go_num,HX,by omega,by omega⟩
  case measure=>simp[intOf];omega
 have HN:Hid (s=R):=by
  show _=_;rw[<-hs.o,<-HR.o];unfold sumK sumV;rw[Zi (by rw[List.length_zipWith];omega)]
 go_wp2
 go_ret
 exact⟨Zm HN.o,rfl⟩
theorem d_ {α:Type} (a b:List α) (m:Nat) (x:α) (h:a.take m=b.take m) (ha:a[m]? = some x) (hb:b[m]? = some x):a.take (m+1)=b.take (m+1):=by
 rw[Y1,Y1,h,ha,hb]
theorem d' {α:Type} (a b:List α) (m:Nat) (h:a.take m=b.take m) (ha:¬m<a.length) (hl:a.length=b.length):a=b:=by
 rwa [Zi (by omega),Zi (by omega)] at h
theorem d8 {α:Type} (a b:List α) (m:Nat) (x y:α) (ha:a[m]? = some x) (hb:b[m]? = some y) (h:x≠y):a≠b:=by
 intro e;subst e;rw[ha] at hb;cases hb;exact h rfl
theorem d7 (l k:List Int) (v u:Value) (w:World) (hv:IArg w v l) (hu:IArg w u k) :
 Calls prog 168 #[v,u] w λe w'=>e=.returned (.bool (decide (l=k)))/\∃n,w'=w.drewN n:=by
 obtain⟨a,c,rfl,hm,hr⟩:=hv;obtain⟨a',c',rfl,SI,PD⟩:=hu;have HV:=hI hr;have DK:=hI PD;obtain⟨R,hR⟩:∃R,decide (l=k)=R:=⟨_,rfl⟩;rw[hR];have HR:=hI hR;unfold maxLen at hm SI;obtain⟨Y0,hm⟩:=hm;obtain⟨KZ,SI⟩:=SI;clear hr PD hR;by_cases hl:l.length=k.length
 ·have HL:=hI hl
  have g0:((l.length:Int) != (k.length:Int))=false:=by simp[hl]
  clear hl;go_enter func168,ntmps168
  go_wp2_with fail
  go_loopw [13] (λi wr=>∃m:Nat,m<=l.length/\i=.int .i64 m/\Hid (l.take m=k.take m)/\∃n,wr=w.drewN n) (λi _=>l.length - (intOf i).toNat)
  case atStart=>exact⟨0,by omega,rfl,rfl,0,rfl⟩
  obtain⟨m,Uo,rfl,hall,nq,rfl⟩:=hrel;by_cases Z7:m<l.length
  ·have UR:m<k.length:=by rw[<-HL.o];exact Z7
   obtain⟨x,hx⟩:∃x,l[m]? = some x:=⟨l[m],by simp[Z7]⟩
   obtain⟨y,hy⟩:∃y,k[m]? = some y:=⟨k[m],by simp[UR]⟩
   obtain⟨b,off,ha,hb,hc⟩:=HV.o m x hx;obtain⟨b',off',DJ,XI,hd⟩:=DK.o m y hy;have HX:=hI hx;have HY:=hI hy;subst ha;subst DJ;clear hx hy;by_cases hq:x=y
   ·subst hq
    have HN:Hid (l.take (m+1)=k.take (m+1)):=d_ l k m x hall.o HX.o HY.o;go_wp2
    go_quiet (fail)
    go_wp2
    go_roundw
    case rel=>exact⟨m+1,by omega,by go_num,HN,_,rfl⟩
    case measure=>simp[intOf];omega
   have HN:Hid (R=false):=by rw[<-HR.o];exact decide_eq_false (d8 l k m x y HX.o HY.o hq)
   have YA:(x != y)=true:=by simpa using hq
   clear hq;go_wp2
   go_quiet (fail)
   go_wp2
   go_ret
   exact⟨ZD HN.o.symm,_,Iq _ _ _⟩
  have HN:Hid (R=true):=by rw[<-HR.o];exact decide_eq_true (d' l k m hall.o Z7 HL.o)
  go_wp2
  go_ret
  exact⟨ZD HN.o.symm,_,rfl⟩
 have HN:Hid (R=false):=by rw[<-HR.o];exact decide_eq_false (λh=>hl (by rw[h]))
 have g0:((l.length:Int) != (k.length:Int))=true:=by simp;omega
 clear hl;go_enter func168,ntmps168
 go_wp2
 go_ret
 exact⟨ZD HN.o.symm,0,rfl⟩
theorem d6 (a:Int) (r:List Int) (k:Nat) (x:Int) (hx:r[k]? = some x):(r.take (k+1)).foldl max a=max ((r.take k).foldl max a) x:=by
 rw[Y1,hx,List.foldl_append];rfl
theorem dZ (p:Int) (r:List Int) (v:Value) (w:World) (hv:IArg w v (p :: r)) :
 Calls prog 169 #[v] w λe w'=>e=.returned (.int .i64 (r.foldl max p))/\w'=w:=by
 obtain⟨a,c,rfl,hm,h1⟩:=hv;have HU:=hI h1;obtain⟨b,off,rfl,hb,hc⟩:=h1 0 p rfl;rw[Wl] at hc;obtain⟨R,hR⟩:∃R,r.foldl max p=R:=⟨_,rfl⟩;rw[hR];have HR:=hI hR;unfold maxLen at hm;obtain⟨Y0,hm⟩:=hm;obtain⟨n,hn⟩:∃n,(p :: r).length=n:=⟨_,rfl⟩;rw[hn] at Y0 ⊢;have HN:Hid (n=r.length+1):=by rw[<-hn];rfl
 have XH:1<=n:=by rw[<-hn];simp
 clear h1 hR hn;go_enter func169,ntmps169
 go_wp2_with fail
 go_loop [3,4] (λt i=>∃(k:Nat) (s:Int),k+1<=n/\i=.int .i64 ((k:Int)+1)/\t=.int .i64 s/\Hid ((r.take k).foldl max p=s)) (λ_ i=>n - (intOf i).toNat)
 case atStart=>exact⟨0,p,by omega,rfl,rfl,rfl⟩
 obtain⟨k,s,hk,rfl,rfl,hs⟩:=hrel;by_cases Z7:k+1<n
 ·have pn:k<r.length:=by have:=HN.o;omega
  obtain⟨x,hx⟩:∃x,r[k]? = some x:=⟨r[k],by simp[pn]⟩
  have HX:Hid ((r.take (k+1)).foldl max p=if s<x then x else s):=by show _=_;rw[d6 p r k x hx,hs.o];split <;> omega
  obtain⟨b2,off2,V2,ZY,hd⟩:=HU.o (k+1) x (by simpa using hx)
  cases V2
  clear hx pn;go_wp2
  go_round
  case rel=>exact⟨k+1,_,by omega,by go_num,rfl,by first | exact HX | (have h9:=HX.o;show List.foldl max p (List.take (k+1) r)=max s x;rw[h9];split <;> omega)⟩
  case measure=>simp[intOf];omega
 have HF:Hid (s=R):=by
  show _=_;rw[<-hs.o,<-HR.o,Zi (by have:=HN.o;omega)]
 go_wp2
 go_ret
 exact⟨Zm HF.o,rfl⟩
open Go.RowKit Go.Maps
theorem wS:Keyed prog 3:=int_keyed underlying3
theorem At (w:World):(zeroValue 282).run prog w=.ok (.agg #[]) w:=by kernel_rfl
def setD {H:Type} (l:List Int):DataW H:=setOf (.agg []) (l.map (Lit.int .i64))
theorem pk (x:Int):∀l:List Int,l.any ((λy:Lit=>y.sameKey (.int .i64 x)) ∘ Lit.int .i64)=l.contains x
 | []=>rfl
 | a :: r=>by
   rw[Qr,List.contains_cons,pk x r]
   congr 1
   show decide (IntKind.i64=IntKind.i64/\a=x)=(x==a);by_cases e:a=x
   ·subst e
    simp
   have e':¬x=a:=λh=>e h.symm
   simp[e,e']
theorem pj {H:Type} (l:List Int) (x:Int):Maps.has (setD (H:=H) l) (.int .i64 x)=l.contains x:=by
 unfold setD;rw[has_setOf _ _ _ (λy hy=>by obtain⟨_,_,rfl⟩:=Zj.1 hy;trivial),List.any_map]
 exact pk x _
theorem dY {H:Type} (l:List Int) (x:Int):setD (H:=H) (l++[x])=(setD l).put (.int .i64 x) (.agg []):=by
 unfold setD;rw[YY];exact setOf_snoc _ _ _
theorem dX (l:List Int) (k:Nat) (x:Int) (hx:l[k]? = some x) (h:(l.take k).Nodup) (hc:(l.take k).contains x=false):(l.take (k+1)).Nodup:=by
 rw[Y1,hx];rw[K9];refine⟨h,by simp,λa ha b hb=>?_⟩
 simp at hb;subst hb;intro e;subst e;have:(l.take k).contains a=true:=by simpa using ha
 rw[hc] at this;cases this
theorem dW (l:List Int) (k:Nat) (x:Int) (hx:l[k]? = some x) (hc:(l.take k).contains x=true):¬l.Nodup:=by
 intro hn;have hk:k<l.length:=(ZN.1 hx).1;have h1:x∈l.take k:=by simpa using hc
 have h2:x∈l.drop k:=by rw[Yc hk];have:l[k]=x:=by simpa[hk] using hx
                        rw[this];exact Zk ..
 have h3:=hn;rw[<-List.take_append_drop k l,K9] at h3;exact h3.2.2 x h1 x h2 rfl
theorem dV (l:List Int) (v:Value) (w:World) (hv:IArg w v l) (hn:l.length<=4) (WB:∀x∈l,-50<=x/\x<=50) :
 Calls prog 165 #[v] w λe w'=>e=.returned (.bool (decide l.Nodup))/\Bw w w':=by
 obtain⟨a,c,rfl,hm,hr⟩:=hv;have HV:=hI hr;have HB:=hI WB;obtain⟨R,hR⟩:∃R,decide l.Nodup=R:=⟨_,rfl⟩;rw[hR];have HR:=hI hR;unfold maxLen at hm;obtain⟨Y0,hm⟩:=hm;clear hr hR WB;have K3:=@run_makeMap prog;go_enter func165,ntmps165
 go_wp2_with fail
 clear K3;go_loopw [11] (λi wr=>∃k:Nat,k<=l.length/\i=.int .i64 k/\wr.ownsMap prog 3 unitElem w.heap.size k (setD (H:=Unit) (l.take k))/\Hid ((l.take k).Nodup)/\Bw w wr/\w.heap.size+1<=wr.heap.size) (λi _=>l.length - (intOf i).toNat)
 case atStart=>exact⟨0,by omega,rfl,World.ownsMap_made _ _ _ _,by show List.Nodup _;simp,(Z6 _ _).alloc (Z2 _) _,by simp⟩
 obtain⟨k,hk,rfl,Z9,PL,Z3,Oc⟩:=hrel;by_cases Z7:k<l.length
 ·obtain⟨x,hx⟩:∃x,l[k]? = some x:=⟨l[k],by simp[Z7]⟩
  obtain⟨b,off,rfl,hb,hc⟩:=HV.o k x hx;have e1:=(Z3.cell (p:=⟨b,off+k,none⟩) hb).trans hc;have OV:=HB.o x (Zz hx);have Rx:keyOf prog 3 (.int .i64 x)=some (.int .i64 x):=keyOf_int_mk underlying3 (WalkArith.wf_i64 (by omega))
  have HX:=hI hx;clear hx hc hb;cases hq:(l.take k).contains x
  ·have HN:Hid ((l.take (k+1)).Nodup):=dX l k x HX.o PL.o hq
   have HD:Hid (setD (H:=Unit) (l.take (k+1))=(setD (l.take k)).put (.int .i64 x) (.agg [])):=by
    show _=_;rw[Y1,HX.o];exact dY _ _
   have hh:Maps.has (setD (H:=Unit) (l.take k)) (.int .i64 x)=false:=by rw[pj];exact hq
   clear hq;go_wp2_with (first
    | (at_lookup;refine wpList_lookup_own_unit _ rfl _ _ 281 rfl 3 282 wS underlying281 (At _) w.heap.size k _ rfl Z9 _ _ rfl Rx ?_)
    | (at_mapUpdate;refine wpList_mapUpdate_own _ rfl _ _ _ 281 rfl 3 282 wS underlying281 (unitElem (H:=Unit)) w.heap.size k _ rfl (Z9.alloc _) (by unfold maxLen;omega) _ _ _ rfl rfl Rx _ [] unitElem_mk ?_;intro w1 Vg Nm)
    | go_in)
   have s1:=Nm.size;simp at s1;go_roundw
   case rel=>exact⟨k+1,by omega,by go_num,by rw[HD.o];exact Vg,HN,(Z3.alloc Z3.size _).grown Nm (by simp;omega) (λj hj=>by cases hj;exact Z2 _),by omega⟩
   case measure=>simp[intOf];omega
  have HN:Hid (R=false):=by rw[<-HR.o];exact decide_eq_false (dW l k x HX.o hq)
  have hh:Maps.has (setD (H:=Unit) (l.take k)) (.int .i64 x)=true:=by rw[pj];exact hq
  clear hq;go_wp2_with (first
   | (at_lookup;refine wpList_lookup_own_unit _ rfl _ _ 281 rfl 3 282 wS underlying281 (At _) w.heap.size k _ rfl Z9 _ _ rfl Rx ?_)
   | go_in)
  go_ret
  exact⟨ZD HN.o.symm,Z3.alloc Z3.size _⟩
 have HN:Hid (R=true):=by
  have:=PL.o;rw[Zi (by omega)] at this;rw[<-HR.o];exact decide_eq_true this
 go_wp2
 go_ret
 exact⟨ZD HN.o.symm,Z3⟩
theorem pi {P:Program} {id:Nat} {Q:Exit->Act->World->Prop} {a:Act} {W:World} {l:List Oper} (hm:P.follows .mixedOrders=true) (hB:Region.lexB .any l.toArray=true)
 (h:wpQuiet P l.toArray (λw'=>Bw W w') (λa'=>∀w',Bw W w'->Q .normal a' w') l a):(Code.region id l.toArray true).wp P Q a W :=
 wp_region_quiet (C:=λw'=>Bw W w') hm hB ⟨rfl,rfl,rfl,Z2 _,λ_ _=>rfl⟩ (by simpa using h)
theorem dU {w w':World} {n:Nat} (h:w'=w.drewN n):Bw w w':=by rw[h];exact below_drewN (Z6 _ _) _
def ph (F:Nat) (c1:Value) (p:List Int->Bool) (w:World):Prop :=
 (∀(args:Array Value) (w':World),Sem.run prog (callFunc F args) w'=.ok (.enter F args) w') /\
 ∀(r:List Int) (x:Value) (w':World),Bw w w'->IArg w' x r->Calls prog F #[x,c1] w' λe w''=>e=.returned (.bool (p r))/\Bw w' w''
def pg (F:Nat) (caps:Array Value) (ls:List MLit) (p:MLit->Bool) (w:World):Prop :=
 (∀(args:Array Value) (w':World),Sem.run prog (callFunc F args) w'=.ok (.enter F args) w') /\
 ∀(l:MLit) (w':World),l∈ls->Bw w w'->Calls prog F (#[.agg #[.int .i64 l.var,.int .i64 l.op,.int .i64 l.n]]++caps) w' λe w''=>e=.returned (.bool (p l))/\Bw w' w''
theorem pf {α:Type} (p:α->Bool) (l:List α) (m:Nat) (t:α) (ht:l[m]? = some t) (h:p t=true):l.any p=true:=Yh.2 ⟨t,Zz ht,h⟩
theorem pe {α:Type} (p:α->Bool) (l:List α) (m:Nat) (t:α) (ht:l[m]? = some t) (h0:(l.take m).any p=false) (h:p t=false):(l.take (m+1)).any p=false:=by
 rw[Y1,ht,RL,h0];simp[h]
theorem pd {α:Type} (p:α->Bool) (l:List α) (m:Nat) (h:¬m<l.length) (h0:(l.take m).any p=false):l.any p=false:=by
 rwa [Zi (by omega)] at h0
theorem dT (F:Nat) (c1:Value) (p:List Int->Bool) (l:List (List Int)) (v:Value) (w:World) (hv:RArg w v l) (hF:ph F c1 p w) :
 Calls prog 236 #[v,.func (.func F) #[] #[c1]] w λe w'=>(∃z:Int,e=.returned (.int .i64 z)/\decide (0<=z)=l.any p)/\Bw w w':=by
 obtain⟨a,c,rfl,hm,hr⟩:=hv;have HV:=hI hr;obtain⟨R,hR⟩:∃R,l.any p=R:=⟨_,rfl⟩;rw[hR];have HR:=hI hR;have HF:=hI hF;unfold maxLen at hm;obtain⟨Y0,hm⟩:=hm;clear hr hR hF;go_enter func236,ntmps236
 go_wp2_with fail
 go_loopw [8] (λi wr=>∃m:Nat,m<=l.length/\i=.int .i64 m/\Hid ((l.take m).any p=false)/\Bw w wr) (λi _=>l.length - (intOf i).toNat)
 case atStart=>exact⟨0,by omega,rfl,rfl,Z6 _ _⟩
 obtain⟨m,Uo,rfl,hall,Z3⟩:=hrel;by_cases Z7:m<l.length
 ·obtain⟨z,hz⟩:∃z,l[m]? = some z:=⟨l[m],by simp[Z7]⟩
  obtain⟨b,off,x,ha,hb,XN,hx⟩:=HV.o m z hz;have hc:=(Z3.cell (p:=⟨b,off+m,none⟩) hb).trans XN;have HZ:=hI hz;have HX:Hid (IArg wr x z):=IArg.below Z3 hx;obtain⟨a5,c5,rfl,_,_⟩:=hx;subst ha;clear hz XN;cases hq:p z
  ·have HN:Hid ((l.take (m+1)).any p=false):=pe _ l m z HZ.o hall.o hq
   go_wp2_with fail
   rw[HF.o.1,Oper.upon_enter];refine (HF.o.2 z _ _ Z3 HX.o).mono ?_;rintro e w1 ⟨rfl,Z5⟩;rw[hq];clear hq;go_wp2
   go_roundw
   case rel=>exact⟨m+1,by omega,by go_num,HN,Z3.trans (Z5.mono Z3.size)⟩
   case measure=>simp[intOf];omega
  have HN:Hid (R=true):=by rw[<-HR.o];exact pf p l m z HZ.o hq
  go_wp2_with fail
  rw[HF.o.1,Oper.upon_enter];refine (HF.o.2 z _ _ Z3 HX.o).mono ?_;rintro e w1 ⟨rfl,Z5⟩;rw[hq];clear hq;go_wp2
  go_ret
  exact⟨⟨_,rfl,by rw[HN.o];simp⟩,Z3.trans (Z5.mono Z3.size)⟩
 have HN:Hid (R=false):=by rw[<-HR.o];exact pd _ l m Z7 hall.o
 go_wp2
 go_ret
 exact⟨⟨_,rfl,by rw[HN.o];rfl⟩,Z3⟩
theorem dS (F:Nat) (c1:Value) (p:List Int->Bool) (l:List (List Int)) (v:Value) (w:World) (hv:RArg w v l) (hF:ph F c1 p w) :
 Calls prog 166 #[v,.func (.func F) #[] #[c1]] w λe w'=>e=.returned (.bool (l.any p))/\Bw w w':=by
 go_enter func166,ntmps166
 go_wp2_with fail
 refine (dT F c1 p l v _ hv hF).mono ?_;rintro e w1 ⟨⟨z,rfl,hz⟩,Z5⟩;have HZ:=hI hz;clear hz;go_wp2
 go_ret
 exact⟨ZD HZ.o,Z5⟩
def wR (p:MLit->Bool) (l:List MLit) (z:Int):Prop:=(z=-1/\l.any p=false)∨∃(k:Nat) (t:MLit),z=(k:Int)/\l[k]? = some t/\p t=true
theorem wR.sign {p:MLit->Bool} {l:List MLit} {z:Int} (h:wR p l z):decide (0<=z)=l.any p:=by
 rcases h with ⟨rfl,h⟩ | ⟨k,t,rfl,ht,hp⟩
 ·rw[h];rfl
 rw[pf p l k t ht hp];simp
theorem dR (F:Nat) (caps:Array Value) (p:MLit->Bool) (l:List MLit) (v:Value) (w:World) (hv:LArg w v l) (hF:pg F caps l p w) :
 Calls prog 269 #[v,.func (.func F) #[] caps] w λe w'=>(∃z:Int,e=.returned (.int .i64 z)/\wR p l z)/\Bw w w':=by
 obtain⟨a,c,rfl,hm,hr⟩:=hv;have HV:=hI hr
 have HF:=hI hF;unfold maxLen at hm;obtain⟨Y0,hm⟩:=hm;clear hr hF;go_enter func269,ntmps269
 go_wp2_with fail
 go_loopw [8] (λi wr=>∃m:Nat,m<=l.length/\i=.int .i64 m/\Hid ((l.take m).any p=false)/\Bw w wr) (λi _=>l.length - (intOf i).toNat)
 case atStart=>exact⟨0,by omega,rfl,rfl,Z6 _ _⟩
 obtain⟨m,Uo,rfl,hall,Z3⟩:=hrel;by_cases Z7:m<l.length
 ·obtain⟨z,hz⟩:∃z,l[m]? = some z:=⟨l[m],by simp[Z7]⟩
  obtain⟨b,off,ha,hb,d0,d1,d2⟩:=HV.o m z hz;have e0:=(Z3.cell (p:=⟨b,off+m * 3,none⟩) hb).trans d0;have e1:=(Z3.cell (p:=⟨b,off+m * 3+1,none⟩) hb).trans d1;have e2:=(Z3.cell (p:=⟨b,off+m * 3+2,none⟩) hb).trans d2;have HZ:=hI hz;subst ha;clear hz d0 d1 d2;cases hq:p z
  ·have HN:Hid ((l.take (m+1)).any p=false):=pe _ l m z HZ.o hall.o hq
   go_wp2_with fail
   rw[HF.o.1,Oper.upon_enter];refine (HF.o.2 z _ (Zz HZ.o) Z3).mono ?_;rintro e w1 ⟨rfl,Z5⟩;rw[hq];clear hq;go_wp2
   go_roundw
   case rel=>exact⟨m+1,by omega,by go_num,HN,Z3.trans (Z5.mono Z3.size)⟩
   case measure=>simp[intOf];omega
  have HP:=hI hq;go_wp2_with fail
  rw[HF.o.1,Oper.upon_enter];refine (HF.o.2 z _ (Zz HZ.o) Z3).mono ?_;rintro e w1 ⟨rfl,Z5⟩;rw[hq];clear hq;go_wp2
  go_ret
  exact⟨⟨_,rfl,Or.inr ⟨m,z,rfl,HZ.o,HP.o⟩⟩,Z3.trans (Z5.mono Z3.size)⟩
 have HN:Hid (l.any p=false):=pd _ l m Z7 hall.o;go_wp2
 go_ret
 exact⟨⟨_,rfl,Or.inl ⟨rfl,HN.o⟩⟩,Z3⟩
theorem pc (F:Nat) (caps:Array Value) (p:MLit->Bool) (l:List MLit) (v:Value) (w:World) (hv:LArg w v l) (hF:pg F caps l p w) :
 Calls prog 229 #[v,.func (.func F) #[] caps] w λe w'=>e=.returned (.bool (l.any p))/\Bw w w':=by
 go_enter func229,ntmps229
 go_wp2_with fail
 refine (dR F caps p l v _ hv hF).mono ?_;rintro e w1 ⟨⟨z,rfl,hz⟩,Z5⟩;have HZ:Hid (decide (0<=z)=l.any p):=hz.sign;clear hz;go_wp2
 go_ret
 exact⟨ZD HZ.o,Z5⟩
theorem dQ (args:Array Value) (w':World):Sem.run prog (callFunc 167 args) w'=.ok (.enter 167 args) w':=by
 simp[callFunc,go_sem,func167,Tryz.f167]
theorem dP (args:Array Value) (w':World):Sem.run prog (callFunc 237 args) w'=.ok (.enter 237 args) w':=by
 simp[callFunc,go_sem,func237,Tryz.f237]
theorem dO (own r:List Int) (v x:Value) (b:Nat) (w:World) (hv:IArg w v own) (hx:IArg w x r) (hb:w.cell? ⟨b,0,none⟩=some v) :
 Calls prog 167 #[x,.pointer (some ⟨b,0,none⟩)] w λe w'=>e=.returned (.bool (decide (r=own)))/\Bw w w':=by
 have HV:=hI hv;have HX:=hI hx;obtain⟨a,c,rfl,_,_⟩:=hv;obtain⟨a',c',rfl,_,_⟩:=hx;go_enter func167,ntmps167
 go_wp2_with fail
 refine (d7 r own _ _ _ HX.o HV.o).mono ?_;rintro e w1 ⟨rfl,n,h1⟩;have Z5:=dU h1;clear h1;go_wp2
 go_ret
 exact⟨rfl,Z5⟩
theorem dN (vals:List Int) (l:MLit) (v:Value) (b:Nat) (w:World) (hv:IArg w v vals) (h0:0<=l.var) (h1:l.var<vals.length) (hb:w.cell? ⟨b,0,none⟩=some v) :
 Calls prog 237 #[.agg #[.int .i64 l.var,.int .i64 l.op,.int .i64 l.n],.pointer (some ⟨b,0,none⟩)] w λe w'=>e=.returned (.bool (litB vals l))/\Bw w w':=by
 obtain⟨a,c,rfl,hm,hr⟩:=hv;have YF:b<w.heap.size:=World.block_lt_of_cell? w _ hb;obtain⟨j,hj⟩:∃j:Nat,l.var=(j:Int):=⟨l.var.toNat,by omega⟩
 have OW:j<vals.length:=by omega
 obtain⟨y,hy⟩:∃y,vals[j]? = some y:=⟨vals[j],by simp[OW]⟩
 obtain⟨b7,off7,rfl,Sf,g7⟩:=hr j y hy;unfold maxLen at hm;obtain⟨Y0,hm⟩:=hm;have Wa:Hid (litB vals l=litV y l):=by show _=_;unfold litB;rw[hj,Ia vals j y hy]
 rw[Wa.o];obtain⟨B,HB⟩:∃B:Bool,Hid (litV y l=B):=⟨_,rfl⟩;rw[HB.o,hj];obtain⟨W,hW⟩:∃W:World,W=w.alloc (.cells #[.int .i64 (j:Int),.int .i64 l.op,.int .i64 l.n] 76):=⟨_,rfl⟩;have HW:=hI hW;have ZW:Hid (Bw w W):=by rw[hW];exact Z4 _ _
 have Se:Hid (W.heap.size=w.heap.size+1):=by show _=_;rw[hW];simp
 have k0:W.cell? ⟨w.heap.size,0,none⟩=some (.int .i64 (j:Int)):=by rw[hW];simp
 have k1:W.cell? ⟨w.heap.size,1,none⟩=some (.int .i64 l.op):=by rw[hW];simp
 have k2:W.cell? ⟨w.heap.size,2,none⟩=some (.int .i64 l.n):=by rw[hW];simp
 have k3:W.cell? ⟨b,0,none⟩=some (.slice (some ⟨b7,off7,none⟩) vals.length c):=by rw[hW];exact (W7 _ _ _ YF).trans hb
 have k4:W.cell? ⟨b7,off7+j,none⟩=some (.int .i64 y):=by rw[hW];exact (W7 _ _ _ Sf).trans g7
 have XR:Hid (∀wq:World,Bw W wq->Calls prog 172 #[.agg #[.int .i64 (j:Int),.int .i64 l.op,.int .i64 l.n],.int .i64 y] wq λe w'=>e=.returned (.bool B)/\Bw W w'):=by
  intro wq hq;rw[<-hj];refine (wU l y wq).mono ?_;rintro e w' ⟨rfl,hb⟩;exact⟨by rw[HB.o],hq.trans (hb.mono hq.size)⟩
 clear hW hr hy hj g7 hb Wa HB h0 h1;go_enter func237,ntmps237
 go_wp2
 rw[<-HW.o];refine pi (by kernel_rfl) (by kernel_rfl) ?_
 go_big_quiet_want
 refine⟨.agg #[.int .i64 (j:Int),.int .i64 l.op,.int .i64 l.n],λwq hq=>?_,?_⟩
 ·have h0:=(hq.cell (p:=⟨w.heap.size,0,none⟩) (by have:=Se.o;simp only;omega)).trans k0
  have h1:=(hq.cell (p:=⟨w.heap.size,1,none⟩) (by have:=Se.o;simp only;omega)).trans k1
  have h2:=(hq.cell (p:=⟨w.heap.size,2,none⟩) (by have:=Se.o;simp only;omega)).trans k2
  simp[Oper.quietAt,go_sem,h0,h1,h2]
 go_simp
 go_big_quiet_on
 go_big_quiet_want
 refine⟨.slice (some ⟨b7,off7,none⟩) vals.length c,λwq hq=>?_,?_⟩
 ·have h0:=(hq.cell (p:=⟨b,0,none⟩) (by have:=Se.o;simp only;omega)).trans k3
  simp[Oper.quietAt,go_sem,h0]
 go_simp
 go_big_quiet_on
 go_big_quiet_want
 go_big_quiet_op
 first | go_big_quiet_on | (refine⟨_,λ_ _=>rfl,?_⟩;go_big_quiet_on)
 go_big_quiet_want
 refine⟨.int .i64 (j:Int),λwq hq=>?_,?_⟩
 ·have h0:=(hq.cell (p:=⟨w.heap.size,0,none⟩) (by have:=Se.o;simp only;omega)).trans k0
  simp[Oper.quietAt,go_sem,h0]
 go_simp
 go_big_quiet_on
 go_big_quiet_want
 go_big_quiet_op
 first | go_big_quiet_on | (refine⟨_,λ_ _=>rfl,?_⟩;go_big_quiet_on)
 go_big_quiet_want
 refine⟨.int .i64 y,λwq hq=>?_,?_⟩
 ·have h0:=(hq.cell (p:=⟨b7,off7+j,none⟩) (by have:=Se.o;simp only;omega)).trans k4
  simp[Oper.quietAt,go_sem,h0]
 go_simp
 go_big_quiet_on
 go_big_quiet_want
 refine⟨.bool B,λwq hq=>?_,?_⟩
 ·simp[Oper.quietAt,go_sem]
  exact XR.o wq hq
 go_simp
 go_big_quiet_on
 go_big_quiet_want
 go_big_quiet_op
 first | go_big_quiet_on | (refine⟨_,λ_ _=>rfl,?_⟩;go_big_quiet_on)
 refine wpQuiet_nil ?_;intro w' DI;have Zd:Bw w w':=ZW.o.trans (DI.mono ZW.o.size);clear DI;go_wp2
 go_ret
 exact⟨rfl,Zd⟩
theorem dM (c:List MLit) (vals:List Int) (u v:Value) (w:World) (hu:LArg w u c) (hv:IArg w v vals) (hc:∀l∈c,0<=l.var/\l.var<(vals.length:Int)) :
 Calls prog 170 #[u,v] w λe w'=>e=.returned (.bool (c.any (litB vals)))/\Bw w w':=by
 have wQ:Hid (∀w':World,Bw w w'->LArg w' u c):=λw' h=>LArg.below h hu
 have Ww:Hid (∀w':World,Bw w w'->IArg w' v vals):=λw' h=>IArg.below h hv
 have HC:=hI hc;obtain⟨a1,c1,rfl,_,_⟩:=hu;obtain⟨a2,c2,rfl,_,_⟩:=hv;clear hc;go_enter func170,ntmps170
 go_wp2_with fail
 refine (pc 237 _ (litB vals) c _ _ (wQ.o _ (Z4 _ _)) ⟨dP,?_⟩).mono ?_
 ·intro l w' hl XI
  exact dN vals l _ w.heap.size w' (Ww.o _ ((Z4 _ _).trans (XI.mono (by simp)))) (HC.o l hl).1 (HC.o l hl).2 ((XI.cell (by simp)).trans (by simp))
 rintro e w3 ⟨rfl,ZG⟩;have Zd:Bw w w3:=(Z4 _ _).trans (ZG.mono (by simp))
 clear ZG;go_wp2
 go_ret
 exact⟨rfl,Zd⟩
end Go.Proofs.YtndcpnlaadikoaaGreatDoor
