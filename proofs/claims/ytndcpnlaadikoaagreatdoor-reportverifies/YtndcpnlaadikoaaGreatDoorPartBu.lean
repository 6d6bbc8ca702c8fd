/- What the proof leans on, part 47. -/
import Derived.Test.YtndcpnlaadikoaaGreatDoorPartBt
set_option maxRecDepth 100000
set_option maxHeartbeats 6400000
open Go.Proofs.Tryz
namespace Go.Proofs.YtndcpnlaadikoaaGreatDoor
open Go.RowKit
theorem zCQ.starg {base:Nat} {w:World} {v:Value} {L:List SV} (h:zCQ base w v L):Uc w v (L.map (·.1)):=by
 obtain⟨a,c,rfl⟩:=ZJ h.1;have hc:L.length<=c/\c<=maxLen:=by
  rcases h.1.2 with ⟨he,_⟩ | ⟨g,cap,cur,he,_,_,k1,k2,_⟩
  ·have h1:L.length=0:=by injection he
   have h2:c=0:=by injection he
   exact⟨by omega,by unfold maxLen;omega⟩
  cases he
  exact⟨k1,k2⟩
 refine⟨a,c,by rw[YU],by rw[YU];exact hc,λi t ht=>?_⟩
 rw[YN] at ht;obtain⟨x,hx,rfl⟩:=QB.1 ht;obtain⟨b,off,e1,e2,e3,e4,e5⟩:=mC h i x hx;exact⟨b,off,x.2,e1,e2,e3,e4,e5,(h.2 x (Zz hx)).arg⟩
theorem zNj (w:World) (hT:TabT w) (hP:TabP w) :
 Calls prog 16 #[] w λe w'=>e=.returned (.bool true)/\Bw w w':=by
 have HT:Hid (∀w',Bw w w'->TabT w'):=λw' h=>hT.below h
 have HTP:Hid (∀w',Bw w w'->TabP w'):=λw' h=>hP.below h
 obtain⟨P,xH,_⟩:=iE;have HP:=hI xH;have R9:Hid (QE Og [0,1] P=(true,0)):=zNi P xH;have KM:Hid (QE Og [0,2] P=(false,0)):=zTq P xH;have vA:Hid (∀Y,Bw w Y->Calls prog 56 #[.string Og,.int .i64 20] Y λe w'=>e=.returned (.tuple #[.string (⟨#[98,101,115,116,10,120,32,61,32,48,10,121,32,61,32,49,10]⟩:ByteArray),.int .i64 0])/\Bw Y w'):=λY hY=>by
  have:=zRX Og (by decide) 20 (λ_=>by rw[xI];decide) Y (HT.o _ hY) (HTP.o _ hY)
  rw[zNh] at this;exact this
 have Mt:Hid (Og.size<=maxLen):=by show _<=_;decide
 clear hT hP xH;go_enter func16,ntmps16
 go_wp2_with fail
 refine (vA.o _ (Z6 _ _)).mono ?_;rintro e w1 ⟨rfl,Z5⟩;have ZU:=hI Z5;clear Z5;go_wp2_with fail
 refine (ez _).mono ?_;rintro e w2 ⟨vs,cs,rfl,hm,ZY⟩;have HM:=hI hm;have ZI:=hI (ZU.o.trans (ZY.mono ZU.o.size));clear hm ZY;go_wp2_with fail
 refine (iO twoM 20 vs cs _ HM.o (HT.o _ ZI.o)).mono ?_;rintro e w3 ⟨vv,pp,rfl,hq,ZG⟩;rw[HP.o] at hq ⊢
 dsimp only at hq ⊢
 obtain⟨L,ZZ,qs⟩:=hq.prf;simp only at qs;obtain⟨av,cv,rfl⟩:=ZJ hq.val;obtain⟨ap,cp,rfl⟩:=ZJ ZZ.1;have HV:Hid (∀Y,Bw w3 Y->IArg Y (.slice av 2 cv) [0,1]):=λY hY=>IArg.below hY (Dc hq.val)
 have HL:Hid (∀Y,Bw w3 Y->Uc Y (.slice ap L.length cp) P):=λY hY=>by
  have h1:=(ZZ.below hY).starg;rw[qs] at h1;exact h1
 have ZM:=hI (ZI.o.trans (ZG.mono ZI.o.size));clear hq ZG ZZ qs HM;have LB:Hid (∀(Y:World) (vals:List Int) (v:Value),Bw w Y->Bw w3 Y->IArg Y v vals->Calls prog 12 #[.string Og,v,.slice ap L.length cp] Y λe w'=>e=.returned (.tuple #[.bool (QE Og vals P).1,.int .i64 (QE Og vals P).2])/\Bw Y w'):=λY vals v h1 h2 h3 =>
  gW Og Mt.o vals P v _ Y h3 (HL.o _ h2) (HT.o _ h1)
 go_wp2_with fail
 have Zd:Bw w3 (w3.alloc (.cells #[.int .i64 1,.slice av 2 cv,.slice ap L.length cp] 53)):=Z4 _ _;have AQ:=heap_alloc_new w3 (.cells #[.int .i64 1,.slice av 2 cv,.slice ap L.length cp] 53);have AP:w3.heap.size<(w3.alloc (.cells #[.int .i64 1,.slice av 2 cv,.slice ap L.length cp] 53)).heap.size:=by simp
 refine (LB.o _ [0,1] _ (ZM.o.trans (Zd.mono ZM.o.size)) Zd (HV.o _ Zd)).mono ?_;rintro e w5 ⟨rfl,Yd⟩;rw[R9.o]
 dsimp only
 have NG:Hid (w5.heap[w3.heap.size]? = some (.cells #[.int .i64 1,.slice av 2 cv,.slice ap L.length cp] 53)):=(Yd.block _ AP).trans AQ;have Fk:Hid (Bw w3 w5):=Zd.trans (Yd.mono Zd.size);have Xx:Hid (Bw w w5):=ZM.o.trans (Fk.o.mono ZM.o.size);clear Zd AQ AP Yd;have k2:=Z_ NG.o 2 _ rfl;have kl:=(Z8.1 NG.o).1;go_wp2_with fail
 refine (LB.o _ [0,2] _ (Xx.o.alloc Xx.o.size _) (Fk.o.alloc Fk.o.size _) (zRD w5 0 2 _ rfl)).mono ?_;rintro e w6 ⟨rfl,Yz⟩;rw[KM.o]
 dsimp only
 have Sd:Hid (Bw w w6):=(Xx.o.alloc Xx.o.size _).trans (Yz.mono (by have:=Xx.o.size;simp;omega))
 clear Yz;go_wp2
 go_ret
 exact⟨rfl,Sd.o⟩
open Go.RowKit Go.Maps
theorem zNk (k:Nat) (vs cs v:Value) (w:World) :
 Calls prog 15 #[.agg #[vs,cs,.int .i64 0,.int .i64 (k:Int)],v] w λe w'=>∃x,e=.returned x/\LOwn w.heap.size w' x []/\Bw w w':=by
 go_enter func15,ntmps15
 go_wp2
 go_ret
 exact⟨_,rfl,ZH _ _ _ _,Z4 _ _⟩
theorem zRZ (m:Mod) (hm:Zs m=0) (vals:List Int) (hb:(U9 m vals).2=0) (vs cs v:Value) (w:World) (hv:IArg w v vals) :
 Calls prog 15 #[modV vs cs m,v] w λe w'=>∃x,e=.returned x/\LOwn w.heap.size w' x (VX m vals)/\Bw w w':=by
 obtain⟨h1,_,h3⟩:=qv m hm vals hb;obtain⟨g1,g2,_⟩:=I6 m hm;by_cases hg:m.goal=0
 ·obtain⟨mv,mc,mg,mk⟩:=m
  simp only at hg g1;subst hg;obtain⟨k,rfl⟩:∃k:Nat,mk=(k:Int):=⟨mk.toNat,by omega⟩
  exact zNk k vs cs v w
 have hb:=Ae m hm m.var.toNat (by omega)
 have h4:=h3.resolve_left hg;exact zOb m vals ⟨g1,by omega⟩ (by omega) vs cs v w hv
theorem fv (s:ByteArray) (vals:List Int) (l:List MStep) (v u:Value) (w:World) (hs:s.size<=maxLen) (hv:IArg w v vals) (hu:Uc w u l) (hT:TabT w) (hP:TabP w) :
 Calls prog 4 #[.string s,v,u] w λe w'=>e=.returned (.bool true)/\Bw w w':=by
 have HV:Hid (∀w',Bw w w'->IArg w' v vals):=λw' h=>IArg.below h hv
 have HU:Hid (∀w',Bw w w'->Uc w' u l):=λw' h=>Uc.below h hu
 have MZ:Hid (∀w',Bw w w'->Calls prog 16 #[] w' λe w2=>e=.returned (.bool true)/\Bw w' w2):=λw' h=>zNj w' (hT.below h) (hP.below h)
 have LB:Hid (Calls prog 12 #[.string s,v,u] w λe w'=>e=.returned (.tuple #[.bool (QE s vals l).1,.int .i64 (QE s vals l).2])/\Bw w w'):=gW s hs vals l v u w hv hu hT
 have xG:Hid (∀Y,Calls prog 13 #[.string s] Y λe w'=>∃vs cs,e=.returned (.tuple #[modV vs cs (Xb s).1,.int .i64 (Xb s).2.1,.int .i64 (Xb s).2.2])/\MArg w' vs cs (Xb s).1/\Bw Y w'):=λY=>by
  have h:=zRQ s hs Y;rw[f_] at h;exact h.mono λe w' ⟨vs,cs,h1,h2,h3⟩=>⟨vs,cs,h1,h2.marg,h3⟩
 have Gw:Hid ((Xb s).2.2=0->Zs (Xb s).1=0/\Q4 (Xb s).1=0):=zNe s;obtain⟨⟨ok,ev⟩,hR⟩:∃R,QE s vals l=R:=⟨_,rfl⟩;rw[hR] at LB;unfold QE at hR;obtain⟨⟨m,at0,er⟩,hp⟩:∃P,Xb s=P:=⟨_,rfl⟩;rw[hp] at xG Gw hR
 dsimp only at xG Gw hR LB
 have HR:=(show Hid _ from hR)
 obtain⟨av,cv,rfl,_,_⟩:=hv;obtain⟨au,cu,rfl,_,_⟩:=hu;clear hs hT hP hp hR;go_enter func4,ntmps4
 go_wp2_with fail
 refine LB.o.mono ?_;rintro e w1 ⟨rfl,Z5⟩;have ZU:=hI Z5;clear Z5;go_wp2_with fail
 refine (xG.o _).mono ?_;rintro e w2 ⟨vs,cs,rfl,Y8,ZY⟩;have Y3:Hid (∀w',Bw w2 w'->MArg w' vs cs m):=λw' h=>MArg.below h Y8
 have ZI:=hI (ZU.o.trans (ZY.mono ZU.o.size));obtain⟨⟨a1,c1,rfl,_,_⟩,⟨a2,c2,rfl,_,_⟩⟩:=Y8;have UG:Hid (∀w',Bw w2 w'->Bw w w'):=λw' h=>ZI.o.trans (h.mono ZI.o.size)
 have WI:Hid (Bw w2 (w2.alloc (.cells #[.slice a1 m.vars.length c1,.slice a2 m.cons.length c2,.int .i64 m.goal,.int .i64 m.var] 25))):=Z4 _ _;have XE:Hid ((w2.alloc (.cells #[.slice a1 m.vars.length c1,.slice a2 m.cons.length c2,.int .i64 m.goal,.int .i64 m.var] 25)).heap[w2.heap.size]? = some (.cells #[.slice a1 m.vars.length c1,.slice a2 m.cons.length c2,.int .i64 m.goal,.int .i64 m.var] 25)):=heap_alloc_new _ _;clear ZY LB xG ZU;by_cases he:er=0
 case neg =>
  have hR:=HR.o;rw[if_neg he] at hR;have e1:ok=false:=(congrArg Prod.fst hR).symm;have e2:ev=er:=(congrArg Prod.snd hR).symm;subst e1 e2;have Qo:(ev==0)=false:=by simpa using he
  clear hR he HR Gw;unfold modV;go_wp2_with fail
  refine (MZ.o _ (UG.o _ WI.o)).mono ?_;rintro e w9 ⟨rfl,U6⟩;have SZ:Hid (Bw w w9):=(UG.o _ WI.o).trans (U6.mono (UG.o _ WI.o).size);clear U6;go_wp2
  go_ret
  exact⟨rfl,SZ.o⟩
 have hR:=HR.o;rw[if_pos he] at hR;obtain⟨hm,IM⟩:=Gw.o he;have HM:=hI hm;have UA:=hI IM;subst he;clear HR Gw IM;by_cases h0:vals=[]
 ·subst h0
  rw[zRS m hm l] at hR;obtain⟨S,hS⟩:∃S,PY m [] l=S:=⟨_,rfl⟩;obtain⟨P,hP⟩:∃P,Fp m [] l=P:=⟨_,rfl⟩;have HS:=hI hS;have HP:=hI hP;rw[hS,hP] at hR;have e1:ok=(decide (S=0)&&P):=(congrArg Prod.fst hR).symm;have e2:ev=S:=(congrArg Prod.snd hR).symm;subst e1 e2;clear hR hS hP hm;have QK:=(show Hid (Calls _ _ _ _ _) from kC m [] l (.slice a1 m.vars.length c1) (.slice a2 m.cons.length c2) _ _ _ (Y3.o _ WI.o) (x8 _) (HU.o _ (UG.o _ WI.o)))
  rw[HS.o] at QK;unfold modV at QK ⊢;go_wp2_with fail
  refine QK.o.mono ?_;rintro e w3 ⟨rfl,ZG⟩;have ZM:=hI (WI.o.trans (ZG.mono WI.o.size));have Yk:Hid (w3.heap[w2.heap.size]? = some (.cells #[.slice a1 m.vars.length c1,.slice a2 m.cons.length c2,.int .i64 m.goal,.int .i64 m.var] 25)):=(ZG.block _ (by simp)).trans XE.o
  clear ZG QK;by_cases T_:ev=0
  case neg =>
   have Qo:(ev==0)=false:=by simpa using T_
   have hd:decide (ev=0)=false:=decide_eq_false T_;rw[hd];clear T_ hd;go_wp2_with fail
   refine (MZ.o _ (UG.o _ ZM.o)).mono ?_;rintro e w9 ⟨rfl,U6⟩;have SZ:Hid (Bw w w9):=(UG.o _ ZM.o).trans (U6.mono (UG.o _ ZM.o).size);clear U6;go_wp2
   go_ret
   exact⟨rfl,SZ.o⟩
  subst T_;have NZ:Q' m ([]:List Cla) l=0:=by rw[qw m HM.o _ (by simp) l];exact HS.o
  obtain⟨_,S1,JK,XV,Tu⟩:=tE m _ l NZ;have JK:=(ww _ _ JK).2;have Mg:Hid (∀Y,Bw w3 Y->Calls prog 17 #[modV (.slice a1 m.vars.length c1) (.slice a2 m.cons.length c2) m,(.slice none 0 0),.slice au l.length cu] Y λe w'=>e=.returned (.bool P)/\Bw Y w'):=λY hY=>by
   have h:=iZ m HM.o ([]:List Cla) JK (by simp) l S1 XV Tu _ _ (.slice none 0 0) _ Y (Y3.o _ (ZM.o.trans (hY.mono ZM.o.size))) (x8 _) (HU.o _ (UG.o _ (ZM.o.trans (hY.mono ZM.o.size))))
   rw[show (Mr l&&U2 m (List.map (zAH m.vars) ([]:List Cla)) l)=P from HP.o] at h
   exact h
  unfold modV at Mg;clear NZ S1 JK XV Tu;go_wp2_with fail
  refine (MZ.o _ (UG.o _ ZM.o)).mono ?_;rintro e w9 ⟨rfl,U6⟩;have SZ:=hI (ZM.o.trans (U6.mono ZM.o.size));have NE:Hid (w9.heap[w2.heap.size]? = some (.cells #[.slice a1 m.vars.length c1,.slice a2 m.cons.length c2,.int .i64 m.goal,.int .i64 m.var] 25)):=(U6.block _ (Z8.1 Yk.o).1).trans Yk.o;have Mg:=(show Hid (Calls _ _ _ _ _) from Mg.o _ U6)
  clear U6;have k0:=Z_ NE.o 0 _ rfl;have k1:=Z_ NE.o 1 _ rfl;have k2:=Z_ NE.o 2 _ rfl;have k3:=Z_ NE.o 3 _ rfl;have kl:=(Z8.1 NE.o).1;go_wp2_with fail
  refine Mg.o.mono ?_;rintro e w8 ⟨rfl,D2⟩;have Fj:=hI (SZ.o.trans (D2.mono SZ.o.size));clear D2 k0 k1 k2 k3 kl Mg;cases P
  all_goals
   go_wp2
   go_ret
   exact⟨rfl,UG.o _ Fj.o⟩
 have E0:vals.length≠0:=λh=>h0 (Xo.1 h)
 have xf:(0:Int)<(vals.length:Int):=by omega
 have h01:((vals.length:Int)==0)=false:=by simpa using h0
 obtain⟨eb,Ix⟩:∃eb,(U9 m vals).2=eb:=⟨_,rfl⟩;have Lr:=(show Hid (Calls _ _ _ _ _) from zIT m vals hm UA.o (.slice a1 m.vars.length c1) (.slice a2 m.cons.length c2) _ _ (Y3.o _ WI.o) (HV.o _ (UG.o _ WI.o)))
 rw[Ix] at Lr;unfold modV at Lr ⊢;by_cases WB:eb=0
 case neg =>
  rw[zRT m vals E0 (by rw[Ix];exact WB) l,Ix] at hR
  have e1:ok=false:=(congrArg Prod.fst hR).symm;have e2:ev=eb:=(congrArg Prod.snd hR).symm;subst e1 e2;have Qo:(ev==0)=false:=by simpa using WB
  clear hR WB Ix hm h0 E0;go_wp2_with fail
  refine Lr.o.mono ?_;rintro e w3 ⟨rfl,ZG⟩;have ZM:=hI (WI.o.trans (ZG.mono WI.o.size));clear ZG Lr;go_wp2_with fail
  refine (MZ.o _ (UG.o _ ZM.o)).mono ?_;rintro e w9 ⟨rfl,U6⟩;have SZ:Hid (Bw w w9):=(UG.o _ ZM.o).trans (U6.mono (UG.o _ ZM.o).size);clear U6;go_wp2
  go_ret
  exact⟨rfl,SZ.o⟩
 subst WB;rw[zTj m hm vals E0 Ix l] at hR;obtain⟨S,hS⟩:∃S,PY m [VX m vals] l=S:=⟨_,rfl⟩;obtain⟨P,hP⟩:∃P,Fp m [VX m vals] l=P:=⟨_,rfl⟩;obtain⟨A,hA⟩:∃A,allB m vals=A:=⟨_,rfl⟩;have HS:=hI hS;have HP:=hI hP;have HA:=hI hA;have QH:Hid (vals.length=m.vars.length):=(qv m hm vals Ix).1;have UK:Hid (∀Y,Bw w Y->Calls prog 15 #[modV (.slice a1 m.vars.length c1) (.slice a2 m.cons.length c2) m,.slice av vals.length cv] Y λe w'=>∃x,e=.returned x/\LOwn Y.heap.size w' x (VX m vals)/\Bw Y w'):=λY hY=>zRZ m hm vals Ix _ _ _ Y (HV.o _ hY)
 unfold modV at UK;rw[hS,hP,hA] at hR;have e1:ok=(decide (S=0)&&P&&A):=(congrArg Prod.fst hR).symm;have e2:ev=S:=(congrArg Prod.snd hR).symm;subst e1 e2;clear hR hS hP hA hm Ix h0 E0;go_wp2_with fail
 refine Lr.o.mono ?_;rintro e w3 ⟨rfl,ZG⟩;have ZM:=hI (WI.o.trans (ZG.mono WI.o.size));have Yk:Hid (w3.heap[w2.heap.size]? = some (.cells #[.slice a1 m.vars.length c1,.slice a2 m.cons.length c2,.int .i64 m.goal,.int .i64 m.var] 25)):=(ZG.block _ (by simp)).trans XE.o
 clear ZG Lr;have k0:=Z_ Yk.o 0 _ rfl;have k1:=Z_ Yk.o 1 _ rfl;have k2:=Z_ Yk.o 2 _ rfl;have k3:=Z_ Yk.o 3 _ rfl;have kl:=(Z8.1 Yk.o).1;go_wp2_with fail
 refine (UK.o _ (UG.o _ ZM.o)).mono ?_;rintro e w4 ⟨x,rfl,hx,Zd⟩;have Sx:=LOwn.arg hx;obtain⟨ax,cx,rfl,_,_⟩:=Sx;have Sx:=LOwn.arg hx;have Gx:=hI Sx;have Yp:=hI (ZM.o.trans (Zd.mono ZM.o.size));have Vc:Hid (w4.heap[w2.heap.size]? = some (.cells #[.slice a1 m.vars.length c1,.slice a2 m.cons.length c2,.int .i64 m.goal,.int .i64 m.var] 25)):=(Zd.block _ kl).trans Yk.o;clear hx Sx Zd k0 k1 k2 k3 kl;go_wp2_with (at_builtin;refine je rfl _ _ rfl (w4.heap.size+1) (.slice none 0 0) 0 [] rfl (ZH _ _ _ _) w4.heap.size (.slice ax (VX m vals).length cx) rfl rfl ?c1 ?c2 ?c3 ?_)
 case c1=>exact Zu _ _ _ 0 (by simp)
 case c2=>omega
 case c3=>simp
 intro v5 w5 XK Z1;have Fi:Hid (Bw w4 w5):=(Z4 _ _).grown Z1 (by simp) (λg h=>by cases h)
 have Um:Hid (WQ w5 v5 [VX m vals]):=CRel.arg (CRel.snoc (CRel.nil w4) Gx.o) XK Fi.o;have Xx:Hid (Bw w2 w5):=Yp.o.trans (Fi.o.mono Yp.o.size);have NG:Hid (w5.heap[w2.heap.size]? = some (.cells #[.slice a1 m.vars.length c1,.slice a2 m.cons.length c2,.int .i64 m.goal,.int .i64 m.var] 25)):=(Fi.o.block _ (Z8.1 Vc.o).1).trans Vc.o;obtain⟨a5,c5,rfl,_,_⟩:=Um.o;have Um:Hid (WQ w5 (.slice a5 1 c5) [VX m vals]):=Um.o;clear XK Z1 UK;have QK:=(show Hid (Calls _ _ _ _ _) from kC m [VX m vals] l (.slice a1 m.vars.length c1) (.slice a2 m.cons.length c2) _ _ _ (Y3.o _ Xx.o) Um.o (HU.o _ (UG.o _ Xx.o)))
 rw[HS.o] at QK;unfold modV at QK;have k0:=Z_ NG.o 0 _ rfl;have k1:=Z_ NG.o 1 _ rfl;have k2:=Z_ NG.o 2 _ rfl;have k3:=Z_ NG.o 3 _ rfl;have kl:=(Z8.1 NG.o).1;go_wp2_with fail
 refine QK.o.mono ?_;rintro e w6 ⟨rfl,Yz⟩;have ZM:=hI (Xx.o.trans (Yz.mono Xx.o.size));have Yk:Hid (w6.heap[w2.heap.size]? = some (.cells #[.slice a1 m.vars.length c1,.slice a2 m.cons.length c2,.int .i64 m.goal,.int .i64 m.var] 25)):=(Yz.block _ kl).trans NG.o;have qr:Hid (WQ w6 (.slice a5 1 c5) [VX m vals]):=WQ.below Yz Um.o;clear Yz QK k0 k1 k2 k3 kl;by_cases T_:ev=0
 case neg =>
  have Qo:(ev==0)=false:=by simpa using T_
  have hd:decide (ev=0)=false:=decide_eq_false T_;rw[hd];clear T_ hd;go_wp2_with fail
  refine (MZ.o _ (UG.o _ ZM.o)).mono ?_;rintro e w9 ⟨rfl,U6⟩;have SZ:Hid (Bw w w9):=(UG.o _ ZM.o).trans (U6.mono (UG.o _ ZM.o).size);clear U6;go_wp2
  go_ret
  exact⟨rfl,SZ.o⟩
 subst T_;have NZ:Q' m [VX m vals] l=0:=by rw[qw m HM.o _ (by simp) l];exact HS.o
 obtain⟨_,S1,JK,XV,Tu⟩:=tE m _ l NZ;have JK:=(ww _ _ JK).2;have Mg:Hid (∀Y,Bw w6 Y->Calls prog 17 #[modV (.slice a1 m.vars.length c1) (.slice a2 m.cons.length c2) m,(.slice a5 1 c5),.slice au l.length cu] Y λe w'=>e=.returned (.bool P)/\Bw Y w'):=λY hY=>by
  have h:=iZ m HM.o [VX m vals] JK (by simp) l S1 XV Tu _ _ (.slice a5 1 c5) _ Y (Y3.o _ (ZM.o.trans (hY.mono ZM.o.size))) (WQ.below hY qr.o) (HU.o _ (UG.o _ (ZM.o.trans (hY.mono ZM.o.size))))
  rw[show (Mr l&&U2 m (List.map (zAH m.vars) [VX m vals]) l)=P from HP.o] at h
  exact h
 unfold modV at Mg;clear NZ S1 JK XV Tu;go_wp2_with fail
 refine (MZ.o _ (UG.o _ ZM.o)).mono ?_;rintro e w9 ⟨rfl,U6⟩;have SZ:=hI (ZM.o.trans (U6.mono ZM.o.size));have NE:Hid (w9.heap[w2.heap.size]? = some (.cells #[.slice a1 m.vars.length c1,.slice a2 m.cons.length c2,.int .i64 m.goal,.int .i64 m.var] 25)):=(U6.block _ (Z8.1 Yk.o).1).trans Yk.o;have Mg:=(show Hid (Calls _ _ _ _ _) from Mg.o _ U6)
 clear U6;have k0:=Z_ NE.o 0 _ rfl;have k1:=Z_ NE.o 1 _ rfl;have k2:=Z_ NE.o 2 _ rfl;have k3:=Z_ NE.o 3 _ rfl;have kl:=(Z8.1 NE.o).1;go_wp2_with fail
 refine Mg.o.mono ?_;rintro e w8 ⟨rfl,D2⟩;have Fj:=hI (SZ.o.trans (D2.mono SZ.o.size));have On:Hid (w8.heap[w2.heap.size]? = some (.cells #[.slice a1 m.vars.length c1,.slice a2 m.cons.length c2,.int .i64 m.goal,.int .i64 m.var] 25)):=(D2.block _ kl).trans NE.o;clear D2 k0 k1 k2 k3 kl Mg;cases P
 ·go_wp2
  go_ret
  exact⟨by simp,UG.o _ Fj.o⟩
 have OL:=(show Hid (Calls _ _ _ _ _) from zNF m vals HM.o QH.o (.slice a1 m.vars.length c1) (.slice a2 m.cons.length c2) _ _ (Y3.o _ Fj.o) (HV.o _ (UG.o _ Fj.o)))
 rw[HA.o] at OL;unfold modV at OL;have k0:=Z_ On.o 0 _ rfl;have k1:=Z_ On.o 1 _ rfl;have k2:=Z_ On.o 2 _ rfl;have k3:=Z_ On.o 3 _ rfl;have kl:=(Z8.1 On.o).1;go_wp2_with fail
 refine OL.o.mono ?_;rintro e w7 ⟨rfl,Sf⟩;have G7:=hI (Fj.o.trans (Sf.mono Fj.o.size));clear Sf k0 k1 k2 k3 kl OL;cases A
 all_goals
  go_wp2
  go_ret
  exact⟨rfl,UG.o _ G7.o⟩
open Go.ChangeShapes Go.WideShapes Go.ChangeAt Go.RowKit Go.Deep
theorem yAc:prog.underlying 28=some (.slice 76):=by kernel_rfl
section
variable {H:Type} {enc:TypeId×Value->H} {w:World} {base:Nat} {spare:Nat->Bool} {held:Bool}
theorem zVW {fuel:Nat} {cs:List Value} {x:DataW H×List MemPlace} (h:DataW.trod enc prog w base spare held fuel 28 cs=some x) :
 ∃v l,cs=[v]/\LArg w v l:=by
 have qp:Inhabited MLit:=⟨⟨0,0,0⟩⟩;obtain⟨l,a,c,Wx,hm,hr⟩:=xg (α:=MLit) yAc pJ (by decide) (λt=>[.int .i64 t.var,.int .i64 t.op,.int .i64 t.n]) (λ_=>True)
  (λn cs' x' h'=>by obtain⟨t,ht⟩:=eA h';exact⟨t,ht,trivial⟩) h
 refine⟨_,l,Wx,a,c,rfl,hm,λi z hz=>?_⟩
 obtain⟨_,b,off,ha,hb,hc⟩:=hr i z hz;have e0:=hc 0 _ rfl;have e1:=hc 1 _ rfl;have e2:=hc 2 _ rfl;rw[<-UU] at e0 e1 e2;exact⟨b,off,ha,hb,e0,e1,e2⟩
end
theorem yAA:prog.cellsOf 28=1:=by kernel_rfl
theorem qi:prog.underlying 32=some (.slice 39):=by kernel_rfl
theorem fK:prog.cellsOf 39=3:=by kernel_rfl
section
variable {H:Type} {enc:TypeId×Value->H} {w:World} {base:Nat} {spare:Nat->Bool} {held:Bool}
theorem zVX {n:Nat} {cs:List Value} {x:DataW H×List MemPlace} (h:DataW.trod enc prog w base spare held n 39 cs=some x) :
 ∃(k c:Int) (v:Value) (l:Cla),cs=[.int .i64 k,.int .i64 c,v]/\LArg w v l:=by
 obtain⟨xs,k,_,_,hl,Pg,hf⟩:=DataW.trod_struct underlying39 h;rw[fK] at hl
 match cs,hl,xs,Pg with
 | [c0,c1,c2],_,[y0,y1,y2],_ =>
   have g0:=hf 0 _ rfl;have g1:=hf 1 _ rfl;have g2:=hf 2 _ rfl;obtain⟨k,hk,_,_⟩:=DataW.trod_int underlying3 g0;obtain⟨p,hp,_,_⟩:=DataW.trod_int underlying3 g1;obtain⟨v,l,hv,hi⟩:=zVW g2
   change List.take (prog.cellsOf 3) [c0,c1,c2]=_ at hk
   change List.take (prog.cellsOf 3) [c1,c2]=_ at hp
   change List.take (prog.cellsOf 28) [c2]=_ at hv
   rw[xe] at hk hp;rw[yAA] at hv;simp at hk hp hv;exact⟨k,p,v,l,by rw[hk,hp,hv],hi⟩
theorem fw {fuel:Nat} {cs:List Value} {x:DataW H×List MemPlace} (h:DataW.trod enc prog w base spare held fuel 32 cs=some x) :
 ∃v l,cs=[v]/\Uc w v l:=by
 have qp:Inhabited (Value×MStep):=⟨(.nilFunc,⟨0,0,[]⟩)⟩;obtain⟨l,a,c,Wx,hm,hr⟩:=xg (α:=Value×MStep) qi fK (by decide) (λz=>[.int .i64 z.2.kind,.int .i64 z.2.con,z.1]) (λz=>LArg w z.1 z.2.cla)
  (λn cs' x' h'=>by obtain⟨k,p,v,r,hz,hi⟩:=zVX h';exact⟨(v,⟨k,p,r⟩),hz,hi⟩) h
 refine⟨_,l.map (·.2),Wx,a,c,by simp,by simpa using hm,λi r PD=>?_⟩
 rw[YN] at PD;obtain⟨⟨v,r2⟩,hz,rfl⟩:=QB.1 PD;obtain⟨hg,b,off,ha,hb,hc⟩:=hr i _ hz;have e0:=hc 0 _ rfl;have e1:=hc 1 _ rfl;have e2:=hc 2 _ rfl;rw[<-UU] at e0 e1 e2;exact⟨b,off,v,ha,hb,e0,e1,e2,hg⟩
end
end Go.Proofs.YtndcpnlaadikoaaGreatDoor
