/- What the proof leans on, part 19. -/
import Derived.Test.YtndcpnlaadikoaaGreatDoorPartAr
set_option maxRecDepth 100000
set_option maxHeartbeats 3200000
open Go.Proofs.Tryz
namespace Go.Proofs.YtndcpnlaadikoaaGreatDoor
open Go.RowKit Go.Maps
structure Ans where
 verdict:Int
 values:List Int
 proof:List MStep
def GF:Ans:=⟨0,[],[]⟩
def Ex (fuel:Int):Sk:=⟨[],fuel.toNat,[],[]⟩
def LD (m:Mod) (fuel:Int):Int×List Int×Sk:=X3 m.vars (ptsM m) (Ex fuel)
def I7 (m:Mod) (fuel:Int):Ans×Int :=
 if Zs m=0 then
  (if fuel<0∨300<fuel then (GF,3)
   else if (LD m fuel).1=2 then (⟨2,[],(LD m fuel).2.2.proof⟩,0) else (⟨(LD m fuel).1,(LD m fuel).2.1,[]⟩,0))
 else (GF,Zs m)
structure AnsQ (base:Nat) (w:World) (vv pp:Value) (a:Ans):Prop where
 val:w.ownsRow base 3 1 vv a.values.length (a.values.map (Value.int .i64))
 prf:∃L:List SV,zCQ base w pp L/\L.map (·.1)=a.proof
theorem Ew (base:Nat) (w:World) (v:Int):AnsQ base w (.slice none 0 0) (.slice none 0 0) ⟨v,[],[]⟩:=⟨ZH _ _ _ _,[],⟨ZH _ _ _ _,λx hx=>by cases hx⟩,rfl⟩
theorem AnsQ.below {base:Nat} {w w':World} {vv pp:Value} {a:Ans} (h:AnsQ base w vv pp a) (hb:Bw w w'):AnsQ base w' vv pp a:=by
 obtain⟨L,h1,h2⟩:=h.prf;exact⟨YZ h.val hb,L,h1.below hb,h2⟩
theorem AnsQ.set {base:Nat} {w:World} {vv pp:Value} {a:Ans} {C:Nat} {cs:Array Value} (h:AnsQ base w vv pp a) (hC:w.heap[C]? = some (.cells cs 53)) (i:Nat) (u:Value):AnsQ base (w.setCell ⟨C,i,none⟩ u) vv pp a:=by
 obtain⟨L,h1,h2⟩:=h.prf;exact⟨V_ h.val hC (by decide) i u,L,h1.set hC (by decide) (by decide) i u,h2⟩
theorem AnsQ.set3 {base:Nat} {w:World} {vv pp:Value} {a:Ans} {C:Nat} {x y z:Value} (h:AnsQ base w vv pp a) (hC:w.heap[C]? = some (.cells #[x,y,z] 53)) (u0 u1 u2:Value):AnsQ base (((w.setCell ⟨C,0,none⟩ u0).setCell ⟨C,1,none⟩ u1).setCell ⟨C,2,none⟩ u2) vv pp a:=by
 have h1:=h.set hC 0 u0;have e1:(w.setCell ⟨C,0,none⟩ u0).heap[C]? = some (.cells #[u0,y,z] 53):=by rw[heap_setCell_same w C 0 _ _ u0 hC];rfl
 have h2:=h1.set e1 1 u1;have e2:((w.setCell ⟨C,0,none⟩ u0).setCell ⟨C,1,none⟩ u1).heap[C]? = some (.cells #[u0,u1,z] 53):=by rw[heap_setCell_same _ C 1 _ _ u1 e1];rfl
 exact h2.set e2 2 u2
theorem zm (w:World) (a b:Obj):((w.alloc a).alloc b).heap[w.heap.size]? = some a/\((w.alloc a).alloc b).heap[w.heap.size+1]? = some b:=by
 refine⟨(Below.heap_alloc _ _ _ (by simp)).trans (heap_alloc_new w a),?_⟩
 have h:=heap_alloc_new (w.alloc a) b;rw[World.size_alloc] at h;exact h
theorem tM (vs:List MVar) (fuel:Int) (h:fuel<=300):SkO vs (Ex fuel):=⟨by simp[Ex],by simp[Ex];omega,bS vs⟩
theorem zSa (m:Mod) (fuel:Int) (vs cs:Value) (w:World) (Y8:MArg w vs cs m) (hT:TabT w) :
 Calls prog 25 #[modV vs cs m,.int .i64 fuel] w λe w'=>∃vv pp,e=.returned (.tuple #[.agg #[.int .i64 (I7 m fuel).1.verdict,vv,pp],.int .i64 (I7 m fuel).2])/\AnsQ w.heap.size w' vv pp (I7 m fuel).1/\Bw w w':=by
 have Y3:Hid (∀w',Bw w w'->MArg w' vs cs m):=λw' h=>MArg.below h Y8
 have HT:Hid (∀w',Bw w w'->TabT w'):=λw' h=>hT.below h
 obtain⟨⟨a1,c1,rfl,_,_⟩,⟨a2,c2,rfl,_,_⟩⟩:=Y8;obtain⟨R,hR⟩:∃R,I7 m fuel=R:=⟨_,rfl⟩;rw[hR];obtain⟨er,Yy⟩:∃er,Zs m=er:=⟨_,rfl⟩;have Xj:=hI Yy;unfold I7 at hR;rw[Yy] at hR;have HR:=(show Hid _ from hR)
 clear hR Yy hT;unfold modV;go_enter func25,ntmps25
 go_wp2_with fail
 obtain⟨HA,HB⟩:=zm w (.cells #[.slice a1 m.vars.length c1,.slice a2 m.cons.length c2,.int .i64 m.goal,.int .i64 m.var] 25) (.cells #[.int .i64 0,.slice none 0 0,.slice none 0 0] 53);have Yt:Bw w ((w.alloc (.cells #[.slice a1 m.vars.length c1,.slice a2 m.cons.length c2,.int .i64 m.goal,.int .i64 m.var] 25)).alloc (.cells #[.int .i64 0,.slice none 0 0,.slice none 0 0] 53)):=(Z4 _ _).alloc (by simp) _
 refine (JE m (.slice a1 m.vars.length c1) (.slice a2 m.cons.length c2) _ (Y3.o _ Yt)).mono ?_;rintro e w1 ⟨rfl,Z5⟩;rw[Xj.o];have Uy:Hid (w1.heap[w.heap.size]? = some (.cells #[.slice a1 m.vars.length c1,.slice a2 m.cons.length c2,.int .i64 m.goal,.int .i64 m.var] 25)):=(Z5.block _ (by simp;omega)).trans HA
 have ZU:Hid (w1.heap[w.heap.size+1]? = some (.cells #[.int .i64 0,.slice none 0 0,.slice none 0 0] 53)):=(Z5.block _ (by simp)).trans HB
 have XE:Hid (Bw w w1):=Yt.trans (Z5.mono (by simp;omega))
 have Vt:w.heap.size+2<=w1.heap.size:=by simpa using Z5.size
 clear Z5 HA HB Yt;have g0:=Z_ Uy.o 0 _ rfl;have g1:=Z_ Uy.o 1 _ rfl;have g2:=Z_ Uy.o 2 _ rfl;have g3:=Z_ Uy.o 3 _ rfl;have r0:=Z_ ZU.o 0 _ rfl;have r1:=Z_ ZU.o 1 _ rfl;have r2:=Z_ ZU.o 2 _ rfl;have z0:=Z0 ZU.o 0;have z1:=Z0 ZU.o 1;have z2:=Z0 ZU.o 2;have lq:w.heap.size<w1.heap.size:=by omega
 have lr:w.heap.size+1<w1.heap.size:=by omega
 by_cases he:er=0
 ·subst he
  have hR:=HR.o;rw[if_pos rfl] at hR;by_cases hf:fuel<0∨300<fuel
  ·rw[if_pos hf] at hR
   have HN:Hid ((GF,(3:Int))=R):=hR;have HQ:Hid (AnsQ w.heap.size (((w1.setCell ⟨w.heap.size+1,0,none⟩ (.int .i64 0)).setCell ⟨w.heap.size+1,1,none⟩ (.slice none 0 0)).setCell ⟨w.heap.size+1,2,none⟩ (.slice none 0 0)) (.slice none 0 0) (.slice none 0 0) GF):=Ew _ _ _;have UK:Hid (Bw w (((w1.setCell ⟨w.heap.size+1,0,none⟩ (.int .i64 0)).setCell ⟨w.heap.size+1,1,none⟩ (.slice none 0 0)).setCell ⟨w.heap.size+1,2,none⟩ (.slice none 0 0))):=((XE.o.setCell (by simp only;omega) _).setCell (by simp only;omega) _).setCell (by simp only;omega) _
   clear hR HR;by_cases R7:fuel<0
   ·clear hf
    go_wp2
    refine bodyPost_ret (by simp[results,results25,go_sem, *];try rfl) rfl ?_
    rw[<-HN.o];exact⟨_,_,rfl,HQ.o,UK.o⟩
   have W9:300<fuel:=by rcases hf with h | h;exact absurd h R7;exact h
   clear hf;go_wp2
   refine bodyPost_ret (by simp[results,results25,go_sem, *];try rfl) rfl ?_
   rw[<-HN.o];exact⟨_,_,rfl,HQ.o,UK.o⟩
  rw[if_neg hf] at hR;have R7:¬fuel<0:=λh=>hf (Or.inl h)
  have W9:¬300<fuel:=λh=>hf (Or.inr h)
  obtain⟨fn,rfl⟩:∃fn:Nat,fuel=(fn:Int):=⟨fuel.toNat,by omega⟩
  have Zy:=(show Hid _ from hR)
  clear hR HR hf;go_wp2_with fail
  refine (ma m Xj.o fn (.slice a1 m.vars.length c1) (.slice a2 m.cons.length c2) w1 (Y3.o _ XE.o) (HT.o _ XE.o)).mono ?_;rintro e W ⟨s,rfl,r,mb,pv,hB,hD,Xi,hr,hs,Re⟩;have UZ:=hI hB;have WR:=(show Hid _ from hD)
  have ZW:=hI Xi;clear hB hD Xi;go_wp2_with fail
  refine (mi m.vars (LZ m Xj.o) (Ai m Xj.o) (ptsM m) W s r mb _ pv _ _ _ UZ.o [] ⟨[],fn,[],[]⟩ (tM m.vars (fn:Int) (by omega)) W WR.o).mono ?_
  rintro e w2 ⟨x,rfl,Xc,LF,cv',prv',pav',L',hd2⟩;obtain⟨X,hX⟩:∃X,X3 m.vars (ptsM m) ⟨[],fn,[],[]⟩=X:=⟨_,rfl⟩;rw[hX] at Xc hd2 ⊢;have HXE:Hid (LD m (fn:Int)=X):=hX;rw[HXE.o] at Zy;have KE:=hI Xc;have Uf:=(show Hid _ from hd2)
  have ZI:Hid (w2.heap[w.heap.size+1]? = some (.cells #[.int .i64 0,.slice none 0 0,.slice none 0 0] 53)):=by
   have h1:=(ZW.o.block _ lr).trans ZU.o;exact (LF.block _ _ _ _ h1 (by unfold TNo;decide)).trans h1
  have Ko:Hid (Bw w w2):=by
   have Z':=hd2.fr;have h1:=XE.o.trans (ZW.o.mono XE.o.size);refine⟨Z'.os.trans h1.os,Z'.tape.trans h1.tape,Z'.output.trans h1.output,ZT h1.size Z'.size,λk hk=>(Z'.block k (ZQ hk h1.size) (by unfold XS;have:=XE.o.size;omega)).trans (h1.block k hk)⟩
  have Kn:Hid (w.heap.size<=W.heap.size):=ZT XE.o.size ZW.o.size;obtain⟨s0,s1,s2,s3,s4,s5,s6⟩:=hd2.cells;obtain⟨apr,cpr,rfl⟩:=ZJ hd2.prf.1;obtain⟨ax,cx,rfl⟩:=ZJ Xc;have hsq:w.heap.size+1<w2.heap.size:=(Z8.1 ZI.o).1;clear Xc LF hd2 hX r0 r1 r2 z0 z1 z2 g0 g1 g2 g3 R7 W9;have r0:=Z_ ZI.o 0 _ rfl;have r1:=Z_ ZI.o 1 _ rfl;have r2:=Z_ ZI.o 2 _ rfl;have z0:=Z0 ZI.o 0;have z1:=Z0 ZI.o 1;have z2:=Z0 ZI.o 2;obtain⟨x1,x2,x3⟩:=X;simp only at KE Uf s3 Zy;by_cases hv:x1=2
  ·have hR:=Zy.o
   rw[if_pos hv] at hR;subst hv;have HN:Hid ((⟨2,[],x3.proof⟩,0)=R):=hR;have HQ:Hid (AnsQ w.heap.size (((w2.setCell ⟨w.heap.size+1,0,none⟩ (.int .i64 2)).setCell ⟨w.heap.size+1,1,none⟩ (.slice none 0 0)).setCell ⟨w.heap.size+1,2,none⟩ (.slice apr L'.length cpr)) (.slice none 0 0) (.slice apr L'.length cpr) ⟨2,[],x3.proof⟩) :=
    AnsQ.set3 (w:=w2) ⟨ZH _ _ _ _,L',Uf.o.prf.mono Kn.o,Uf.o.prfE⟩ ZI.o _ _ _
   have UK:Hid (Bw w (((w2.setCell ⟨w.heap.size+1,0,none⟩ (.int .i64 2)).setCell ⟨w.heap.size+1,1,none⟩ (.slice none 0 0)).setCell ⟨w.heap.size+1,2,none⟩ (.slice apr L'.length cpr))):=((Ko.o.setCell (by simp only;omega) _).setCell (by simp only;omega) _).setCell (by simp only;omega) _
   clear hR Zy KE;go_wp2
   refine bodyPost_ret (by simp[results,results25,go_sem, *];try rfl) rfl ?_
   rw[<-HN.o];exact⟨_,_,rfl,HQ.o,UK.o⟩
  have hR:=Zy.o;rw[if_neg hv] at hR;have UC:(x1==2)=false:=by simpa using hv
  have HN:Hid ((⟨x1,x2,[]⟩,0)=R):=hR;have HQ:Hid (AnsQ w.heap.size (((w2.setCell ⟨w.heap.size+1,0,none⟩ (.int .i64 x1)).setCell ⟨w.heap.size+1,1,none⟩ (.slice ax x2.length cx)).setCell ⟨w.heap.size+1,2,none⟩ (.slice none 0 0)) (.slice ax x2.length cx) (.slice none 0 0) ⟨x1,x2,[]⟩) :=
   AnsQ.set3 (w:=w2) ⟨World.ownsRow.mono KE.o Kn.o,[],⟨ZH _ _ _ _,λx hx=>by cases hx⟩,rfl⟩ ZI.o _ _ _
  have UK:Hid (Bw w (((w2.setCell ⟨w.heap.size+1,0,none⟩ (.int .i64 x1)).setCell ⟨w.heap.size+1,1,none⟩ (.slice ax x2.length cx)).setCell ⟨w.heap.size+1,2,none⟩ (.slice none 0 0))):=((Ko.o.setCell (by simp only;omega) _).setCell (by simp only;omega) _).setCell (by simp only;omega) _
  clear hR Zy KE;go_wp2
  refine bodyPost_ret (by simp[results,results25,go_sem, *];try rfl) rfl ?_
  rw[<-HN.o];exact⟨_,_,rfl,HQ.o,UK.o⟩
 have hR:=HR.o;rw[if_neg he] at hR;have HN:Hid ((GF,er)=R):=hR;have Qo:(er != 0)=true:=by simpa using he
 have HQ:Hid (AnsQ w.heap.size (((w1.setCell ⟨w.heap.size+1,0,none⟩ (.int .i64 0)).setCell ⟨w.heap.size+1,1,none⟩ (.slice none 0 0)).setCell ⟨w.heap.size+1,2,none⟩ (.slice none 0 0)) (.slice none 0 0) (.slice none 0 0) GF):=Ew _ _ _;have UK:Hid (Bw w (((w1.setCell ⟨w.heap.size+1,0,none⟩ (.int .i64 0)).setCell ⟨w.heap.size+1,1,none⟩ (.slice none 0 0)).setCell ⟨w.heap.size+1,2,none⟩ (.slice none 0 0))):=((XE.o.setCell (by simp only;omega) _).setCell (by simp only;omega) _).setCell (by simp only;omega) _
 clear hR HR;go_wp2
 refine bodyPost_ret (by simp[results,results25,go_sem, *];try rfl) rfl ?_
 rw[<-HN.o];exact⟨_,_,rfl,HQ.o,UK.o⟩
def VX (m:Mod) (vals:List Int):Cla :=
 if m.goal=1 then [⟨m.var,1,Zx vals m.var - 1⟩] else if m.goal=2 then [⟨m.var,2,Zx vals m.var+1⟩] else []
def U9 (m:Mod) (vals:List Int):Cla×Int :=
 if Zs m=0 then
  (if vals.length=m.vars.length then
    (if m.goal≠0/\(Zx vals m.var<(ZF m.vars m.var.toNat).lo∨(ZF m.vars m.var.toNat).hi<Zx vals m.var) then ([],3) else (VX m vals,0))
   else ([],1))
 else ([],Zs m)
theorem zk (w:World) (l:MLit):LOwn w.heap.size (w.alloc (.cells #[.int .i64 l.var,.int .i64 l.op,.int .i64 l.n] 76)) (.slice (some ⟨w.heap.size,0,none⟩) 1 1) [l] :=
 ⟨rfl,.inr ⟨w.heap.size,1,_,rfl,Z2 _,heap_alloc_new _ _,Z2 _,by decide,rfl,rfl⟩⟩
theorem l9 (m:Mod) (vals:List Int) (hk:0<=m.var/\m.var<(vals.length:Int)) (hb:-1000<=Zx vals m.var/\Zx vals m.var<=1000) (vs cs v:Value) (w:World) (hv:IArg w v vals) :
 Calls prog 117 #[modV vs cs m,v] w λe w'=>∃x,e=.returned x/\LOwn w.heap.size w' x (VX m vals)/\Bw w w':=by
 obtain⟨mv,mc,mg,mk⟩:=m;unfold VX modV;simp only at hk hb ⊢;obtain⟨k,rfl⟩:∃k:Nat,mk=(k:Int):=⟨mk.toNat,by omega⟩
 have TM:k<vals.length:=by omega
 obtain⟨z,hz⟩:∃z,vals[k]? = some z:=⟨vals[k],by rw[ZA TM]⟩
 have P2:Zx vals (k:Int)=z:=by unfold Zx;rw[YK,ZO,hz];rfl
 rw[P2] at hb ⊢;obtain⟨a,c,rfl,hm,hr⟩:=hv;obtain⟨b,off,ha,YF,hc⟩:=hr k z hz;subst ha;have Ct:(k:Int)<(vals.length:Int):=by omega
 clear hr hz P2 hk;by_cases h1:mg=1
 ·subst h1
  rw[if_pos rfl];have tL:IntKind.i64.wrap (z - 1)=z - 1:=by rw[IntKind.wrap_i64];omega
  go_enter func117,ntmps117
  go_wp2_with fail
  have Yt:Bw w (w.alloc (.cells #[vs,cs,.int .i64 1,.int .i64 (k:Int)] 25)):=Z4 _ _;obtain⟨Y,hY⟩:∃Y,w.alloc (.cells #[vs,cs,.int .i64 1,.int .i64 (k:Int)] 25)=Y:=⟨_,rfl⟩;have d3:Y.cell? ⟨w.heap.size,3,none⟩=some (.int .i64 (k:Int)):=by rw[<-hY];simp
  have dl:w.heap.size<Y.heap.size:=by rw[<-hY];simp
  rw[hY] at Yt ⊢;have dc:Y.cell? ⟨b,off+k,none⟩=some (.int .i64 z):=(Yt.cell (p:=⟨b,off+k,none⟩) YF).trans hc;have dbl:b<Y.heap.size:=by have:=Yt.size;omega
  have WI:=hI Yt;have WP:Hid (LOwn Y.drew.heap.size (Y.drew.alloc (.cells #[.int .i64 (k:Int),.int .i64 1,.int .i64 (z - 1)] 76)) (.slice (some ⟨Y.drew.heap.size,0,none⟩) 1 1) [⟨(k:Int),1,z - 1⟩]):=zk Y.drew ⟨(k:Int),1,z - 1⟩;have Y':=Yt.size;clear hY Yt hc YF;go_region_law (fail)
  all_goals
   go_wp2
   go_ret
   exact⟨_,rfl,Ri Y' WP.o,WI.o.drew.alloc Y' _⟩
 by_cases h2:mg=2
 ·subst h2
  rw[if_neg (by decide),if_pos rfl]
  have tL:IntKind.i64.wrap (z+1)=z+1:=by rw[IntKind.wrap_i64];omega
  clear h1;go_enter func117,ntmps117
  go_wp2_with fail
  have Yt:Bw w (w.alloc (.cells #[vs,cs,.int .i64 2,.int .i64 (k:Int)] 25)):=Z4 _ _;obtain⟨Y,hY⟩:∃Y,w.alloc (.cells #[vs,cs,.int .i64 2,.int .i64 (k:Int)] 25)=Y:=⟨_,rfl⟩;have d3:Y.cell? ⟨w.heap.size,3,none⟩=some (.int .i64 (k:Int)):=by rw[<-hY];simp
  have dl:w.heap.size<Y.heap.size:=by rw[<-hY];simp
  rw[hY] at Yt ⊢;have dc:Y.cell? ⟨b,off+k,none⟩=some (.int .i64 z):=(Yt.cell (p:=⟨b,off+k,none⟩) YF).trans hc;have dbl:b<Y.heap.size:=by have:=Yt.size;omega
  have WI:=hI Yt;have WP:Hid (LOwn Y.drew.heap.size (Y.drew.alloc (.cells #[.int .i64 (k:Int),.int .i64 2,.int .i64 (z+1)] 76)) (.slice (some ⟨Y.drew.heap.size,0,none⟩) 1 1) [⟨(k:Int),2,z+1⟩]):=zk Y.drew ⟨(k:Int),2,z+1⟩;have Y':=Yt.size;clear hY Yt hc YF;go_region_law (fail)
  all_goals
   go_wp2
   go_ret
   exact⟨_,rfl,Ri Y' WP.o,WI.o.drew.alloc Y' _⟩
 rw[if_neg h1,if_neg h2];have GQ:(mg==1)=false:=by simpa using h1
 have l8:(mg==2)=false:=by simpa using h2
 clear h1 h2;go_enter func117,ntmps117
 go_wp2
 go_ret
 exact⟨_,rfl,ZH _ _ _ _,Z4 _ _⟩
theorem I6 (m:Mod) (hm:Zs m=0):0<=m.var/\m.var<(m.vars.length:Int)/\(m.goal=0∨m.goal=1∨m.goal=2):=by
 obtain⟨h1,_,_,_,_,h6⟩:=RH m hm;unfold Oe at h6
 split at h6
 ·rename_i hg
  split at h6
  ·rename_i hv
   exact⟨by omega,by omega,Or.inl hg⟩
  cases h6
 split at h6
 ·rename_i hg
  split at h6
  ·rename_i hv
   unfold Wd at hv;simp only[ZB,decide_eq_true_eq] at hv;exact⟨hv.1,hv.2,Or.inr hg⟩
  cases h6
 cases h6
theorem zOT (k:Nat) (vs cs v:Value) (w:World) :
 Calls prog 117 #[.agg #[vs,cs,.int .i64 0,.int .i64 (k:Int)],v] w λe w'=>∃x,e=.returned x/\LOwn w.heap.size w' x []/\Bw w w':=by
 go_enter func117,ntmps117
 go_wp2
 go_ret
 exact⟨_,rfl,ZH _ _ _ _,Z4 _ _⟩
theorem zOU (m:Mod) (vals:List Int) (vs cs v:Value) (w:World) (Y8:MArg w vs cs m) (hv:IArg w v vals) :
 Calls prog 62 #[modV vs cs m,v] w λe w'=>∃x,e=.returned (.tuple #[x,.int .i64 (U9 m vals).2])/\LOwn w.heap.size w' x (U9 m vals).1/\Bw w w':=by
 have Y3:Hid (∀w',Bw w w'->MArg w' vs cs m):=λw' h=>MArg.below h Y8
 have Jw:Hid (∀w',Bw w w'->IArg w' v vals):=λw' h=>IArg.below h hv
 obtain⟨⟨a1,c1,rfl,_,OK⟩,⟨a2,c2,rfl,_,_⟩⟩:=Y8;have HV:=hI OK
 obtain⟨a3,c3,rfl,_,I5⟩:=hv;have HI:=hI I5;obtain⟨R,hR⟩:∃R,U9 m vals=R:=⟨_,rfl⟩;rw[hR];obtain⟨er,Yy⟩:∃er,Zs m=er:=⟨_,rfl⟩;have Xj:=hI Yy;unfold U9 at hR;rw[Yy] at hR;have HR:=(show Hid _ from hR)
 clear hR Yy OK I5;have Ev:Hid (∀(Y:World),Bw w Y->0<=m.var/\m.var<(vals.length:Int)->-1000<=Zx vals m.var/\Zx vals m.var<=1000->Calls prog 117 #[.agg #[.slice a1 m.vars.length c1,.slice a2 m.cons.length c2,.int .i64 m.goal,.int .i64 m.var],.slice a3 vals.length c3] Y λe w'=>∃x,e=.returned x/\LOwn Y.heap.size w' x (VX m vals)/\Bw Y w'):=λY hY h1 h2 =>
  l9 m vals h1 h2 (.slice a1 m.vars.length c1) (.slice a2 m.cons.length c2) _ Y (Jw.o _ hY)
 unfold modV;go_enter func62,ntmps62
 go_wp2_with fail
 have Yt:Bw w (w.alloc (.cells #[.slice a1 m.vars.length c1,.slice a2 m.cons.length c2,.int .i64 m.goal,.int .i64 m.var] 25)):=Z4 _ _;refine (JE m (.slice a1 m.vars.length c1) (.slice a2 m.cons.length c2) _ (Y3.o _ Yt)).mono ?_;rintro e w1 ⟨rfl,Z5⟩;rw[Xj.o];have Uy:Hid (w1.heap[w.heap.size]? = some (.cells #[.slice a1 m.vars.length c1,.slice a2 m.cons.length c2,.int .i64 m.goal,.int .i64 m.var] 25)):=(Z5.block _ (by simp)).trans (heap_alloc_new _ _)
 have XE:Hid (Bw w w1):=Yt.trans (Z5.mono (by simp))
 have lq:w.heap.size<w1.heap.size:=by have:=Z5.size;simp at this;omega
 clear Z5 Yt;have g0:=Z_ Uy.o 0 _ rfl;have g1:=Z_ Uy.o 1 _ rfl;have g2:=Z_ Uy.o 2 _ rfl;have g3:=Z_ Uy.o 3 _ rfl;have Y':=XE.o.size;by_cases he:er=0
 ·subst he
  have hR:=HR.o;rw[if_pos rfl] at hR;obtain⟨q1,q2,q3⟩:=I6 m Xj.o;by_cases hl:vals.length=m.vars.length
  ·rw[if_pos hl] at hR
   have HL:=hI hl;obtain⟨k,hk⟩:∃k:Nat,m.var=(k:Int):=⟨m.var.toNat,by omega⟩
   have KF:k<m.vars.length:=by omega
   obtain⟨t,ht⟩:∃t,m.vars[k]? = some t:=⟨m.vars[k],by rw[ZA KF]⟩
   obtain⟨_,b,off,ha,YF,c0,c1',c2'⟩:=HV.o k t ht;obtain⟨z,hz⟩:∃z,vals[k]? = some z:=⟨vals[k]'(by omega),by rw[ZA (by omega)]⟩
   obtain⟨b3,off3,EH,Rc,cz⟩:=HI.o k z hz;subst ha EH;have Eu:=Il m Xj.o k t ht;have MO:ZF m.vars k=t:=by unfold ZF;rw[ZO,ht];rfl
   have P2:Zx vals m.var=z:=by unfold Zx;rw[hk,YK,ZO,hz];rfl
   rw[P2,hk,YK,MO] at hR;have zj:=hI P2;have zP:Hid (0<=m.var/\m.var<(vals.length:Int)):=⟨q1,by omega⟩
   have e0:=(XE.o.cell (p:=⟨b,off+k * 3,none⟩) YF).trans c0;have e1:=(XE.o.cell (p:=⟨b,off+k * 3+1,none⟩) YF).trans c1';have e2:=(XE.o.cell (p:=⟨b,off+k * 3+2,none⟩) YF).trans c2';have e3:=(XE.o.cell (p:=⟨b3,off3+k,none⟩) Rc).trans cz;have lb:b<w1.heap.size:=by omega
   have lb3:b3<w1.heap.size:=by omega
   have Cs:(k:Int)<(m.vars.length:Int):=by omega
   have hkz:k<vals.length:=by omega
   have tK:(k:Int)<(vals.length:Int):=by omega
   rw[hk] at g3 Ev;have hq:((vals.length:Int) != (m.vars.length:Int))=false:=by rw[hl];simp
   have XX:-50<=t.lo/\t.hi<=50:=by omega
   have ZI:Hid (∀o:Obj,Bw w (w1.alloc o)):=λo=>XE.o.alloc XE.o.size o
   obtain⟨tn,tl,th⟩:=t;simp only at e0 e1 e2 hR XX Eu;have Zy:=(show Hid _ from hR)
   have SB:Hid (Zx vals m.var=z):=zj.o;by_cases hg:m.goal=0
   ·have Tk:=Zy.o
    rw[if_neg (λh=>h.1 hg)] at Tk
    have HN:=hI Tk;have UL:VX m vals=[]:=by unfold VX;rw[hg];rfl
    rw[hg] at g2;have zi:(m.goal != 0)=false:=by rw[hg];rfl
    clear hR Tk Zy HR hl Eu MO P2 q1 q2 q3 c0 c1' c2' cz ht hz YF Rc;have tJ:Hid (∀(Y:World),Calls prog 117 #[.agg #[.slice (some ⟨b,off,none⟩) m.vars.length c1,.slice a2 m.cons.length c2,.int .i64 0,.int .i64 (k:Int)],.slice (some ⟨b3,off3,none⟩) vals.length c3] Y λe w'=>∃x,e=.returned x/\LOwn Y.heap.size w' x []/\Bw Y w'):=λY=>zOT k _ _ _ Y
    clear hg zi;go_wp2_with fail
    go_quiet (fail)
    go_wp2_with fail
    refine (tJ.o _).mono ?_;rintro e w2 ⟨x,rfl,hx,ZY⟩;have LC:=below_drewN (ZI.o (.cells #[.string tn,.int .i64 tl,.int .i64 th] 67)) nq;have UK:Hid (Bw w w2):=LC.trans (ZY.mono LC.size);have HX:Hid (LOwn w.heap.size w2 x []):=Ri LC.size hx;clear LC hx ZY;go_wp2
    go_ret2
    rw[<-HN.o,UL];exact⟨_,rfl,HX.o,UK.o⟩
   have zi:(m.goal != 0)=true:=by simpa using hg
   by_cases h1:z<tl
   ·have Tk:=Zy.o
    rw[if_pos ⟨hg,Or.inl h1⟩] at Tk;have HN:=hI Tk;clear hR Tk Zy HR hl Eu MO P2 q1 q2 q3 c0 c1' c2' cz ht hz YF Rc hg;go_wp2_with fail
    go_quiet (fail)
    go_wp2
    go_ret2
    rw[<-HN.o];exact⟨_,rfl,ZH _ _ _ _,below_drewN (ZI.o _) _⟩
   by_cases h2:th<z
   ·have Tk:=Zy.o
    rw[if_pos ⟨hg,Or.inr h2⟩] at Tk;have HN:=hI Tk;clear hR Tk Zy HR hl Eu MO P2 q1 q2 q3 c0 c1' c2' cz ht hz YF Rc hg;go_wp2_with fail
    go_quiet (fail)
    go_wp2
    go_ret2
    rw[<-HN.o];exact⟨_,rfl,ZH _ _ _ _,below_drewN (ZI.o _) _⟩
   have Tk:=Zy.o;rw[if_neg (λh=>by rcases h.2 with h | h <;> omega)] at Tk
   have HN:=hI Tk;have HZ:Hid (-1000<=Zx vals m.var/\Zx vals m.var<=1000):=by rw[SB.o];show _/\_;omega
   rw[hk] at zP HZ;clear hR Tk Zy HR hl Eu MO P2 q1 q2 q3 c0 c1' c2' cz ht hz YF Rc hg;go_wp2_with fail
   go_quiet (fail)
   go_wp2_with fail
   have LC:=below_drewN (ZI.o (.cells #[.string tn,.int .i64 tl,.int .i64 th] 67)) nq;refine (Ev.o _ LC zP.o HZ.o).mono ?_;rintro e w2 ⟨x,rfl,hx,ZY⟩;have UK:Hid (Bw w w2):=LC.trans (ZY.mono LC.size);have HX:Hid (LOwn w.heap.size w2 x (VX m vals)):=Ri LC.size hx;clear LC hx ZY;go_wp2
   go_ret2
   rw[<-HN.o];exact⟨_,rfl,HX.o,UK.o⟩
  rw[if_neg hl] at hR;have HN:Hid (([],1)=R):=hR;have vU:((vals.length:Int) != (m.vars.length:Int))=true:=by simpa using (λh:(vals.length:Int)=(m.vars.length:Int)=>hl (by omega))
  clear hR HR hl q1 q2 q3;go_wp2
  go_ret2
  rw[<-HN.o];exact⟨_,rfl,ZH _ _ _ _,XE.o⟩
 have hR:=HR.o;rw[if_neg he] at hR;have HN:Hid (([],er)=R):=hR;have Qo:(er != 0)=true:=by simpa using he
 clear hR HR he;go_wp2
 go_ret2
 rw[<-HN.o];exact⟨_,rfl,ZH _ _ _ _,XE.o⟩
open Go.RowKit
theorem Rb (n a b:Int) (w:World) :
 Calls prog 40 #[.int .i64 n,.int .i64 a,.int .i64 b] w λe w'=>e=.returned (.bool (decide (a<=n)&&decide (n<=b)))/\w'=w:=by
 go_enter func40,ntmps40
 go_wp2
 ·go_ret;exact⟨ZD (by simp[*]),rfl⟩
 go_ret;exact⟨ZD (by rw[decide_eq_false (p:=a<=n) (by omega)];rfl),rfl⟩
theorem zh (n:Int) (w:World) :
 Calls prog 155 #[.int .i64 n] w λe w'=>e=.returned (.bool (XC n))/\w'=w:=by
 obtain⟨B,hB⟩:∃B,XC n=B:=⟨_,rfl⟩;have HB:Hid ((decide (-1000<=n)&&decide (n<=1000))=B):=hB;rw[hB];clear hB;go_enter func155,ntmps155
 go_wp2_with fail
 refine (Rb _ _ _ _).mono ?_;rintro e w ⟨rfl,rfl⟩;rw[HB.o];go_wp2
 go_ret
 exact⟨rfl,rfl⟩
theorem l7 (m:Mod) (l:MLit) (a:Option Addr) (cap:Nat) (cs:Value) (w:World) (hm:m.vars.length<=maxLen) :
 Calls prog 92 #[.agg #[.slice a m.vars.length cap,cs,.int .i64 m.goal,.int .i64 m.var],.agg #[.int .i64 l.var,.int .i64 l.op,.int .i64 l.n]] w λe w'=>e=.returned (.int .i64 (litE m.vars l))/\Bw w w':=by
 obtain⟨E,hE⟩:∃E,litE m.vars l=E:=⟨_,rfl⟩;have HE:Hid (E=if l.var<0∨(m.vars.length:Int)<=l.var then 5 else if l.op<1∨4<l.op then 7 else if l.n < -1000∨1000<l.n then 3 else 0):=by show _=_;rw[<-hE];rfl
 rw[hE];have HB:Hid (Bw w ((w.alloc (.cells #[.slice a m.vars.length cap,cs,.int .i64 m.goal,.int .i64 m.var] 25)).alloc (.cells #[.int .i64 l.var,.int .i64 l.op,.int .i64 l.n] 76))):=(Z4 _ _).alloc (by simp) _
 unfold maxLen at hm;clear hE;go_enter func92,ntmps92
 go_wp2_with fail
 refine (Rb _ _ _ _).mono ?_;rintro e wq ⟨rfl,rfl⟩;by_cases h1:l.var<0∨(m.vars.length:Int)<=l.var
 ·have HN:Hid (E=5):=by show _=_;rw[HE.o,if_pos h1]
  have q:(decide (0<=l.var)&&decide (l.var<=(m.vars.length:Int) - 1))=false:=by rw[RY];simp;omega
  rw[q];go_wp2
  go_ret
  exact⟨by rw[HN.o];rfl,HB.o⟩
 have q:(decide (0<=l.var)&&decide (l.var<=(m.vars.length:Int) - 1))=true:=by rw[ZB];simp;omega
 rw[q];go_wp2_with fail
 refine (Rb _ _ _ _).mono ?_;rintro e wq ⟨rfl,rfl⟩;by_cases h2:l.op<1∨4<l.op
 ·have HN:Hid (E=7):=by show _=_;rw[HE.o,if_neg h1,if_pos h2]
  have q:(decide (1<=l.op)&&decide (l.op<=4))=false:=by rw[RY];simp;omega
  rw[q];go_wp2
  go_ret
  exact⟨by rw[HN.o];rfl,HB.o⟩
 have q:(decide (1<=l.op)&&decide (l.op<=4))=true:=by rw[ZB];simp;omega
 rw[q];go_wp2_with fail
 refine (zh _ _).mono ?_;rintro e wq ⟨rfl,rfl⟩;by_cases h3:l.n < -1000∨1000<l.n
 ·have HN:Hid (E=3):=by show _=_;rw[HE.o,if_neg h1,if_neg h2,if_pos h3]
  have q:XC l.n=false:=by unfold XC inB;rw[RY];simp;omega
  rw[q];go_wp2
  go_ret
  exact⟨by rw[HN.o];rfl,HB.o⟩
 have HN:Hid (E=0):=by show _=_;rw[HE.o,if_neg h1,if_neg h2,if_neg h3]
 have q:XC l.n=true:=by unfold XC inB;rw[ZB];simp;omega
 rw[q];go_wp2
 go_ret
 exact⟨by rw[HN.o];rfl,HB.o⟩
theorem lZ {α:Type} (a b:List α) (m:Nat) (x:α) (h:a.take m=b.take m) (ha:a[m]? = some x) (hb:b[m]? = some x):a.take (m+1)=b.take (m+1):=by
 rw[Y1,Y1,h,ha,hb]
theorem lY {α:Type} (a b:List α) (m:Nat) (h:a.take m=b.take m) (ha:¬m<a.length) (hl:a.length=b.length):a=b:=by
 rwa [Zi (by omega),Zi (by omega)] at h
theorem lW {α:Type} (a b:List α) (m:Nat) (x y:α) (ha:a[m]? = some x) (hb:b[m]? = some y) (h:x≠y):a≠b:=by
 intro e;subst e;rw[ha] at hb;cases hb;exact h rfl
theorem lU (l k:List Int) (v u:Value) (w:World) (hv:IArg w v l) (hu:IArg w u k) :
 Calls prog 32 #[v,u] w λe w'=>e=.returned (.bool (decide (l=k)))/\∃n,w'=w.drewN n:=by
 obtain⟨a,c,rfl,hm,hr⟩:=hv;obtain⟨a',c',rfl,SI,PD⟩:=hu;have HV:=hI hr;have DK:=hI PD;obtain⟨R,hR⟩:∃R,decide (l=k)=R:=⟨_,rfl⟩;rw[hR];have HR:=hI hR;unfold maxLen at hm SI;obtain⟨Y0,hm⟩:=hm;obtain⟨KZ,SI⟩:=SI;clear hr PD hR;by_cases hl:l.length=k.length
 ·have HL:=hI hl
  have g0:((l.length:Int) != (k.length:Int))=false:=by simp[hl]
  clear hl;go_enter func32,ntmps32
  go_wp2_with fail
  go_loopw [5] (λi wr=>∃m:Nat,m<=l.length/\i=.int .i64 m/\Hid (l.take m=k.take m)/\∃n,wr=w.drewN n) (λi _=>l.length - (intOf i).toNat)
  case atStart=>exact⟨0,by omega,rfl,rfl,0,rfl⟩
  obtain⟨m,Uo,rfl,hall,nq,rfl⟩:=hrel;by_cases Z7:m<l.length
  ·have UR:m<k.length:=by rw[<-HL.o];exact Z7
   obtain⟨x,hx⟩:∃x,l[m]? = some x:=⟨l[m],by simp[Z7]⟩
   obtain⟨y,hy⟩:∃y,k[m]? = some y:=⟨k[m],by simp[UR]⟩
   obtain⟨b,off,ha,hb,hc⟩:=HV.o m x hx;obtain⟨b',off',DJ,XI,hd⟩:=DK.o m y hy;have HX:=hI hx;have HY:=hI hy;subst ha;subst DJ;clear hx hy;by_cases hq:x=y
   ·subst hq
    have HN:Hid (l.take (m+1)=k.take (m+1)):=lZ l k m x hall.o HX.o HY.o;go_wp2
    go_quiet (fail)
    go_wp2
    go_roundw
    case rel=>exact⟨m+1,by omega,by go_num,HN,_,rfl⟩
    case measure=>simp[intOf];omega
   have HN:Hid (R=false):=by rw[<-HR.o];exact decide_eq_false (lW l k m x y HX.o HY.o hq)
   have YA:(x != y)=true:=by simpa using hq
   clear hq;go_wp2
   go_quiet (fail)
   go_wp2
   go_ret
   exact⟨ZD HN.o.symm,_,Iq _ _ _⟩
  have HN:Hid (R=true):=by rw[<-HR.o];exact decide_eq_true (lY l k m hall.o Z7 HL.o)
  go_wp2
  go_ret
  exact⟨ZD HN.o.symm,_,rfl⟩
 have HN:Hid (R=false):=by rw[<-HR.o];exact decide_eq_false (λh=>hl (by rw[h]))
 have g0:((l.length:Int) != (k.length:Int))=true:=by simp;omega
 clear hl;go_enter func32,ntmps32
 go_wp2
 go_ret
 exact⟨ZD HN.o.symm,0,rfl⟩
theorem LArg.nth {w:World} {a:Option Addr} {n c:Nat} {l:List MLit} (h:LArg w (.slice a n c) l) (i:Nat) (t:MLit) (hr:l[i]? = some t):∃b off,a=some ⟨b,off,none⟩/\b<w.heap.size /\
 w.cell? ⟨b,off+i * 3,none⟩=some (.int .i64 t.var)/\w.cell? ⟨b,off+i * 3+1,none⟩=some (.int .i64 t.op)/\w.cell? ⟨b,off+i * 3+2,none⟩=some (.int .i64 t.n):=by
 obtain⟨a',c',hv,_,hh⟩:=h;cases hv
 exact hh i t hr
theorem lT (m:Mod) (s:Sto) (hm:Zs m=0) (hs:DQ m.vars s=0):s.length<=6/\∀r∈s,r.length<=6:=by
 have h1:=(RH m hm).2.1;have h2:=((xa _ _).1 hs).1;refine⟨by omega,λr hr=>?_⟩
 obtain⟨i,hi⟩:=Wm.1 hr;exact aU m s hm hs i r hi
def NW (lo:Int) (j:Nat):List Int:=(List.range j).map λ(k:Nat)=>lo+(k:Int)
theorem zQn (lo:Int) (j:Nat):NW lo (j+1)=NW lo j++[lo+j]:=by simp[NW,List.range_succ]
theorem zSb (lo:Int) (j:Nat):(NW lo j).length=j:=by simp[NW]
end Go.Proofs.YtndcpnlaadikoaaGreatDoor
