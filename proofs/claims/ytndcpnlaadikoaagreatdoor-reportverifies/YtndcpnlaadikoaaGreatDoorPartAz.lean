/- What the proof leans on, part 26. -/
import Derived.Test.YtndcpnlaadikoaaGreatDoorPartAy
import Derived.Shelf.Strings.OnBuilder
import Derived.Shelf.Strings.BuilderF
import Derived.Shelf.Strconv.Atoi
import Derived.Shelf.Strconv.Itoa3
import Derived.Lib.AtoiErrMem
set_option maxRecDepth 100000
set_option maxHeartbeats 1600000
open Go.Proofs.Tryz
namespace Go.Proofs.YtndcpnlaadikoaaGreatDoor
open Go.RowKit
def We (s:ByteArray):Prop:=(ByteArray.empty.toList==s.toList)=false
theorem BZ (en:Int) (l:List Tok) (s:ByteArray) (hs:We s) (h:((ZL en l).text.toList==s.toList)=true):l≠[]:=by
 intro hl;subst hl;have h2:(ByteArray.empty.toList==s.toList)=true:=h;rw[hs] at h2;cases h2
theorem Vy.fr {α:Type} {p:PR α} {G:α->Value->World->Prop} {N R M:Nat} {en:Int} {X:Nat->Prop} {w0 w w':World} {e:Ending} (h0:Fr X w0 w) (h:Vy p G N R M en X w e w'):Vy p G N R M en X w0 e w':=by
 unfold Vy at *;cases p with
 | ok a r=>obtain⟨v,h1,h2,h3,h4⟩:=h;exact⟨v,h1,h2,h3,h0.trans h4⟩
 | bad x er=>exact⟨h.1,h0.trans h.2⟩
theorem TF (N R M:Nat) (en:Int) (s:ByteArray) (hs:We s) (w:World) (l:List Tok) (h:Rd N R M en w l) :
 Calls prog 259 #[.pointer (some ⟨R,0,none⟩),.string s] w (Vy (Zv en s l) (λ_ v _=>v=.tuple #[]) N R M en (λk=>k=R) w):=by
 have Ye:=PW (ZL en l);have HB:=hI h;have HS:=hI hs;obtain⟨B,hB⟩:∃B,((ZL en l).text.toList==s.toList)=B:=⟨_,rfl⟩;have Th:=hI hB;have HP:Hid (Zv en s l=WU en B l):=by show _=_;unfold Zv;rw[hB]
 rw[HP.o];clear hs hB;go_enter func259,ntmps259
 go_wp2_with fail
 refine (Vz N R M en _ l HB.o).mono ?_;rintro e w1 ⟨rfl,Z5⟩;have Yl:=hI (HB.o.below Z5);have Xh:Hid (Fr (λk=>k=R) w w1):=Fr.below Z5
 unfold tokA;go_wp2_with fail
 rw[Th.o];refine (MG N R M en B w1 l Yl.o (λhb=>BZ en l s HS.o (Th.o.trans hb))).mono ?_
 intro e w2 hp;have YB:Hid (Vy (WU en B l) (λt v _=>v=tokA t) N R M en (λk=>k=R) w e w2):=hp.fr Xh.o
 clear hp Z5 h;cases B
 ·obtain⟨rfl,Z'⟩:=YB.o
  go_wp2
  exact⟨rfl,rfl,Z'⟩
 obtain⟨v,rfl,rfl,ZV,Z'⟩:=YB.o;unfold tokA;go_wp2
 go_end0
 exact⟨_,rfl,rfl,ZV,Z'⟩
theorem zOc (w:World) (s:ByteArray) (hs:s.size<=maxLen):MArg (w.alloc (.cells #[.string s,.int .i64 0,.int .i64 0] 67)) (.slice (some ⟨w.heap.size,0,none⟩) 1 1) (.slice none 0 0) ⟨[⟨s,0,0⟩],[],0,0⟩:=by
 refine⟨⟨_,1,rfl,⟨Z2 _,by unfold maxLen;omega⟩,λi t ht=>?_⟩,⟨none,0,rfl,⟨Z2 _,YI _⟩,λi t ht=>by simp at ht⟩⟩
 match i,ht with
 | 0,ht =>
   cases ht
   exact⟨hs,_,0,rfl,by simp,Zu _ _ _ 0 (by simp),Zu _ _ _ 1 (by simp),Zu _ _ _ 2 (by simp)⟩
theorem kn (s:ByteArray) (hs:s.size<=maxLen) (w:World) :
 Calls prog 279 #[.string s] w λe w'=>e=.returned (.bool (Pf s))/\Bw w w':=by
 obtain⟨er,Yy⟩:∃er,Zs ⟨[⟨s,0,0⟩],[],0,0⟩=er:=⟨_,rfl⟩;have Xj:=hI Yy;have HN:Hid (Pf s=(er==0)):=by show _=_;unfold Pf;rw[Yy]
 rw[HN.o];have HA:Hid (MArg (w.alloc (.cells #[.string s,.int .i64 0,.int .i64 0] 67)) (.slice (some ⟨w.heap.size,0,none⟩) 1 1) (.slice none 0 0) ⟨[⟨s,0,0⟩],[],0,0⟩):=zOc w s hs;clear Yy hs;go_enter func279,ntmps279
 go_wp2_with fail
 refine (show Calls prog 59 #[.agg #[.slice (some ⟨w.heap.size,0,none⟩) 1 1,.slice none 0 0,.int .i64 0,.int .i64 0]] _ _ from JE ⟨[⟨s,0,0⟩],[],0,0⟩ _ _ _ HA.o).mono ?_
 rintro e w1 ⟨rfl,Z5⟩;rw[Xj.o];have ZY:Bw w w1:=(Z4 _ _).trans (Z5.mono (by simp))
 clear Z5;go_wp2
 go_ret
 exact⟨rfl,ZY⟩
theorem kj:Pf ByteArray.empty=false:=by kernel_rfl
theorem ki {N R M:Nat} {en:Int} {w:World} {l:List Tok} (h:Rd N R M en w l):(ZL en l).text.size<=maxLen:=by
 obtain⟨_,v,_,_,_,_,_,ht,_⟩:=h;cases l with
 | nil=>show ByteArray.empty.size<=maxLen;exact YI _
 | cons t r=>have:=(ht.2 t (Zk ..)).1;show t.text.size<=maxLen;unfold maxLen;omega
theorem zOd (N R M:Nat) (en:Int) (w:World) (l:List Tok) (h:Rd N R M en w l) :
 Calls prog 260 #[.pointer (some ⟨R,0,none⟩)] w (Vy (OA en l) (λs v _=>v=.string s/\s.size<=maxLen) N R M en (λk=>k=R) w):=by
 have Ye:=PW (ZL en l);have HB:=hI h;have Y':=ki h;obtain⟨B,hB⟩:∃B,Pf (ZL en l).text=B:=⟨_,rfl⟩;have Th:=hI hB;have HP:Hid (OA en l=(WU en B l).bind λt r=>.ok t.text r):=by show _=_;unfold OA;rw[hB]
 have HL:Hid (B=true->l≠[]):=by
  intro hb hl;subst hl;rw[hb] at hB;have h2:Pf ByteArray.empty=true:=hB;rw[kj] at h2;cases h2
 have XF:=hI Y';rw[HP.o];clear hB Y' h;go_enter func260,ntmps260
 go_wp2_with fail
 refine (Vz N R M en _ l HB.o).mono ?_;rintro e w1 ⟨rfl,Z5⟩;have Yl:=hI (HB.o.below Z5);have Xh:Hid (Fr (λk=>k=R) w w1):=Fr.below Z5
 unfold tokA;clear Z5;go_wp2_with fail
 refine (kn _ XF.o _).mono ?_;rintro e w2 ⟨rfl,ZY⟩;rw[Th.o];have Zy:=hI (Yl.o.below ZY);have Zo:Hid (Fr (λk=>k=R) w w2):=Xh.o.trans (Fr.below ZY)
 clear ZY Ye;go_wp2_with fail
 refine (MG N R M en B w2 l Zy.o HL.o).mono ?_;intro e w3 hp;have YB:Hid (Vy (WU en B l) (λt v _=>v=tokA t) N R M en (λk=>k=R) w e w3):=hp.fr Zo.o
 clear hp;cases B
 ·obtain⟨rfl,Z'⟩:=YB.o
  go_wp2
  exact⟨rfl,rfl,Z'⟩
 obtain⟨v,rfl,rfl,ZV,Z'⟩:=YB.o;have Ye:=PW (ZL en l);unfold tokA;go_wp2
 go_ret
 exact⟨_,rfl,⟨rfl,XF.o⟩,ZV,Z'⟩
def SArg (w:World) (v:Value) (l:List ByteArray):Prop :=
 ∃a c,v=.slice a l.length c/\(l.length<=c/\c<=maxLen)/\∀(i:Nat) (z:ByteArray),l[i]? = some z->∃b off,a=some ⟨b,off,none⟩/\b<w.heap.size/\w.cell? ⟨b,off+i,none⟩=some (.string z)
theorem SArg.below {w w':World} {v:Value} {l:List ByteArray} (hb:Bw w w') (h:SArg w v l):SArg w' v l:=by
 obtain⟨a,c,hv,hm,hr⟩:=h;refine⟨a,c,hv,hm,λi z hz=>?_⟩
 obtain⟨b,off,ha,Z7,hc⟩:=hr i z hz;exact⟨b,off,ha,ZQ Z7 hb.size,(hb.cell (p:=⟨b,off+i,none⟩) Z7).trans hc⟩
theorem zWG (l:List ByteArray) (n:ByteArray) (m:Nat) (z:ByteArray) (hz:l[m]? = some z) (h:(n.toList==z.toList)=true):idxA (l.drop m) n m=(m:Int):=by
 have hm:m<l.length:=(ZN.1 hz).1;rw[Yc hm];have:l[m]=z:=by rw[ZA hm] at hz;exact Zl hz
 rw[this,idxA,h,if_pos rfl]
theorem zUl (l:List ByteArray) (n:ByteArray) (m:Nat) (z:ByteArray) (hz:l[m]? = some z) (h:(n.toList==z.toList)=false):idxA (l.drop m) n m=idxA (l.drop (m+1)) n (m+1):=by
 have hm:m<l.length:=(ZN.1 hz).1;rw[Yc hm];have:l[m]=z:=by rw[ZA hm] at hz;exact Zl hz
 rw[this,idxA,h,if_neg (by simp)]
theorem zQv (l:List ByteArray) (v:Value) (n:ByteArray) (w:World) (hv:SArg w v l) :
 Calls prog 281 #[v,.string n] w λe w'=>e=.returned (.int .i64 (idxA l n 0))/\w'=w:=by
 obtain⟨a,c,rfl,hm,hr⟩:=hv;have HV:=hI hr;obtain⟨R,hR⟩:∃R,idxA l n 0=R:=⟨_,rfl⟩;rw[hR];have HR:=hI hR;unfold maxLen at hm;obtain⟨Y0,hm⟩:=hm;clear hr hR;go_enter func281,ntmps281
 go_wp2_with fail
 go_loop [8] (λi=>∃m:Nat,m<=l.length/\i=.int .i64 m/\Hid (idxA (l.drop m) n m=R)) (λi=>l.length - (intOf i).toNat)
 case atStart=>exact⟨0,by omega,rfl,HR⟩
 obtain⟨m,Uo,rfl,hall⟩:=hrel;by_cases Z7:m<l.length
 ·obtain⟨z,hz⟩:∃z,l[m]? = some z:=⟨l[m],by simp[Z7]⟩
  obtain⟨b,off,ha,hb,hc⟩:=HV.o m z hz;have HZ:=hI hz;subst ha;clear hz;cases hq:(n.toList==z.toList)
  ·have HN:Hid (idxA (l.drop (m+1)) n (m+1)=R):=by show _=_;rw[<-zUl l n m z HZ.o hq];exact hall.o
   go_wp2
   go_round
   case rel=>exact⟨m+1,by omega,by go_num,HN⟩
   case measure=>simp[intOf];omega
  have HN:Hid (R=(m:Int)):=by rw[<-hall.o];exact zWG l n m z HZ.o hq
  go_wp2
  go_ret
  exact⟨Zm HN.o.symm,rfl⟩
 have HN:Hid (R=-1):=by
  have h:=hall.o;rw[SU (by omega)] at h
  exact h.symm
 go_wp2
 go_ret
 exact⟨Zm HN.o.symm,rfl⟩
theorem sI (N R M:Nat) (en:Int) (texts:List ByteArray) (v:Value) (w:World) (l:List Tok) (h:Rd N R M en w l) (hv:SArg w v texts) :
 Calls prog 262 #[.pointer (some ⟨R,0,none⟩),v] w (Vy (VJ en texts l) (λi v _=>v=.int .i64 i) N R M en (λk=>k=R) w):=by
 have R7:=sK (ZL en l);have Ye:=PW (ZL en l);have HB:=hI h;have HV:Hid (∀w',Bw w w'->SArg w' v texts):=λw' hb=>SArg.below hb hv
 obtain⟨a,c,rfl,_,_⟩:=hv;obtain⟨I,hII⟩:∃I,idxA texts (ZL en l).text 0=I:=⟨_,rfl⟩;have HI:=hI hII;obtain⟨P,hP⟩:∃P,VJ en texts l=P:=⟨_,rfl⟩;have HP:Hid (P=(WU en (decide (0<=I)&&((ZL en l).kind != 0)) l).bind λ_ r=>.ok I r):=by show _=_;rw[<-hP];unfold VJ;rw[hII]
 rw[hP];have HL:Hid (((ZL en l).kind != 0)=true->l≠[]):=by
  intro hb hl;subst hl;have h2:((0:Int) != 0)=true:=hb;simp at h2
 clear hII h hP;go_enter func262,ntmps262
 go_wp2_with fail
 refine (Vz N R M en _ l HB.o).mono ?_;rintro e w1 ⟨rfl,Z5⟩;have Yl:=hI (HB.o.below Z5);have Xh:Hid (Fr (λk=>k=R) w w1):=Fr.below Z5
 have R9:Hid (SArg w1 (.slice a texts.length c) texts):=HV.o _ Z5;unfold tokA;clear Z5;go_wp2_with fail
 refine (zQv texts _ _ _ R9.o).mono ?_;rintro e w1 ⟨rfl,rfl⟩;rw[HI.o];by_cases h0:0<=I
 ·have HD:Hid (decide (0<=I)=true):=decide_eq_true h0
  obtain⟨K,hK⟩:∃K,((ZL en l).kind != 0)=K:=⟨_,rfl⟩;have HK:=hI hK;have YB:Hid (P=(WU en K l).bind λ_ r=>.ok I r):=by show _=_;rw[HP.o,HD.o,hK];rfl
  clear hK;go_wp2_with fail
  refine (Vz N R M en _ l Yl.o).mono ?_;rintro e w2 ⟨rfl,ZY⟩;have Zy:=hI (Yl.o.below ZY);have Zo:Hid (Fr (λk=>k=R) w w2):=Xh.o.trans (Fr.below ZY)
  unfold tokA;clear ZY;go_wp2_with fail
  rw[HK.o];refine (MG N R M en K w2 l Zy.o (λhb=>HL.o (HK.o.trans hb))).mono ?_
  intro e w3 hp;have WG:Hid (Vy (WU en K l) (λt v _=>v=tokA t) N R M en (λk=>k=R) w e w3):=hp.fr Zo.o
  clear hp;cases K
  ·obtain⟨rfl,Z'⟩:=WG.o
   go_wp2
   exact⟨rfl,by rw[YB.o];exact⟨rfl,Z'⟩⟩
  obtain⟨v,rfl,rfl,ZV,Z'⟩:=WG.o;unfold tokA;go_wp2
  go_ret
  rw[YB.o];exact⟨_,rfl,rfl,ZV,Z'⟩
 have YB:Hid (P=(WU en false l).bind λ_ r=>.ok I r):=by show _=_;rw[HP.o,decide_eq_false h0];rfl
 go_wp2_with fail
 refine (MG N R M en false w1 l Yl.o (λhb=>by cases hb)).mono ?_
 intro e w3 hp;have WG:Hid (Vy (WU en false l) (λt v _=>v=tokA t) N R M en (λk=>k=R) w e w3):=hp.fr Xh.o
 clear hp;obtain⟨rfl,Z'⟩:=WG.o;go_wp2
 exact⟨rfl,by rw[YB.o];exact⟨rfl,Z'⟩⟩
end Go.Proofs.YtndcpnlaadikoaaGreatDoor
namespace Go.Proofs
open Go.Shelf
def Tryz.lays169_ren:Go.Shelf.Ren:=⟨λ| 169=>116 | n=>n,λ| 70=>176 | 9=>9 | 0=>0 | 72=>179 | 37=>177 | 127=>247 | 3=>3 | 5=>5 | n=>n,λ| n=>n⟩
theorem Tryz.lays169:Go.Proofs.Lays.n169 prog Tryz.lays169_ren:={
 mixed:=by kernel_rfl
 f169:=func116.trans (congrArg some (by kernel_rfl))
 t0:=underlying0
 a0:=isAgg0
 z0:=sizeOf0
 v0:=zeroValue0
 t3:=underlying3
 a3:=isAgg3
 z3:=sizeOf3
 v3:=zeroValue3
 t9:=underlying9
 a9:=isAgg9
 z9:=sizeOf9
 v9:=zeroValue9
 t37:=underlying177
 a37:=isAgg177
 z37:=sizeOf177
 v37:=zeroValue177
 t70:=underlying176
 a70:=isAgg176
 z70:=sizeOf176
 v70:=zeroValue176
 t72:=underlying179
 a72:=isAgg179
 z72:=sizeOf179
 v72:=zeroValue179
 t127:=underlying247
 a127:=isAgg247
 z127:=sizeOf247
 v127:=zeroValue247 }
theorem Tryz.Builder_Extra_169:Builder.Extra prog Tryz.lays169_ren:={
 sizeBuilder:=by kernel_rfl
 liesBuilder:=by kernel_rfl
 t5:=underlying5
 a5:=isAgg5
 z5:=sizeOf5
 v5:=zeroValue5
 infoByte:=by kernel_rfl
 cellsByte:=by kernel_rfl
 sizeByte:=by kernel_rfl
 neB5:=by decide }
def Tryz.lays172_ren:Go.Shelf.Ren:=⟨λ| 172=>280 | 244=>290 | 245=>291 | 247=>294 | 279=>295 | 280=>296 | 281=>297 | 282=>298 | 287=>299 | 316=>300 | 171=>108 | 205=>301 | 321=>302 | 322=>303 | 243=>175 | 246=>238 | 283=>270 | 284=>271 | 285=>272 | 286=>273 | 129=>213 | 317=>285 | 318=>286 | 319=>287 | 320=>288 | 337=>292 | 338=>234 | n=>n,λ| 9=>9 | 3=>3 | 75=>237 | 76=>238 | 4=>4 | 5=>5 | 167=>324 | 37=>177 | 0=>0 | 85=>325 | 2=>2 | 168=>327 | 53=>135 | 175=>331 | 46=>199 | 210=>335 | 127=>247 | 145=>340 | 143=>338 | 21=>21 | 171=>305 | 173=>307 | 212=>320 | 51=>266 | 20=>20 | 213=>321 | 232=>330 | 233=>304 | 80=>91 | n=>n,λ| 15=>4 | 16=>5 | 17=>1 | 18=>2 | 19=>0 | n=>n⟩
theorem Tryz.lays172:Go.Proofs.Lays.n172 prog Tryz.lays172_ren:={
 mixed:=by kernel_rfl
 f129:=func213.trans (congrArg some (by kernel_rfl))
 f171:=func108.trans (congrArg some (by kernel_rfl))
 f172:=func280.trans (congrArg some (by kernel_rfl))
 f205:=func301.trans (congrArg some (by kernel_rfl))
 f243:=func175.trans (congrArg some (by kernel_rfl))
 f244:=func290.trans (congrArg some (by kernel_rfl))
 f245:=func291.trans (congrArg some (by kernel_rfl))
 f246:=func238.trans (congrArg some (by kernel_rfl))
 f247:=func294.trans (congrArg some (by kernel_rfl))
 f279:=func295.trans (congrArg some (by kernel_rfl))
 f280:=func296.trans (congrArg some (by kernel_rfl))
 f281:=func297.trans (congrArg some (by kernel_rfl))
 f282:=func298.trans (congrArg some (by kernel_rfl))
 f283:=func270.trans (congrArg some (by kernel_rfl))
 f284:=func271.trans (congrArg some (by kernel_rfl))
 f285:=func272.trans (congrArg some (by kernel_rfl))
 f286:=func273.trans (congrArg some (by kernel_rfl))
 f287:=func299.trans (congrArg some (by kernel_rfl))
 f316:=func300.trans (congrArg some (by kernel_rfl))
 f317:=func285.trans (congrArg some (by kernel_rfl))
 f318:=func286.trans (congrArg some (by kernel_rfl))
 f319:=func287.trans (congrArg some (by kernel_rfl))
 f320:=func288.trans (congrArg some (by kernel_rfl))
 f321:=func302.trans (congrArg some (by kernel_rfl))
 f322:=func303.trans (congrArg some (by kernel_rfl))
 f337:=func292.trans (congrArg some (by kernel_rfl))
 f338:=func234.trans (congrArg some (by kernel_rfl))
 t0:=underlying0
 a0:=isAgg0
 z0:=sizeOf0
 v0:=zeroValue0
 t2:=underlying2
 a2:=isAgg2
 z2:=sizeOf2
 v2:=zeroValue2
 t3:=underlying3
 a3:=isAgg3
 z3:=sizeOf3
 v3:=zeroValue3
 t4:=underlying4
 a4:=isAgg4
 z4:=sizeOf4
 v4:=zeroValue4
 t5:=underlying5
 a5:=isAgg5
 z5:=sizeOf5
 v5:=zeroValue5
 t9:=underlying9
 a9:=isAgg9
 z9:=sizeOf9
 v9:=zeroValue9
 t20:=underlying20
 a20:=isAgg20
 z20:=sizeOf20
 v20:=zeroValue20
 t21:=underlying21
 a21:=isAgg21
 z21:=sizeOf21
 v21:=zeroValue21
 t37:=underlying177
 a37:=isAgg177
 z37:=sizeOf177
 v37:=zeroValue177
 t46:=underlying199
 a46:=isAgg199
 z46:=sizeOf199
 v46:=zeroValue199
 t51:=underlying266
 a51:=isAgg266
 z51:=sizeOf266
 v51:=zeroValue266
 t53:=underlying135
 a53:=isAgg135
 z53:=sizeOf135
 v53:=zeroValue135
 t75:=underlying237
 a75:=isAgg237
 z75:=sizeOf237
 v75:=zeroValue237
 t76:=underlying238
 a76:=isAgg238
 z76:=sizeOf238
 v76:=zeroValue238
 t85:=underlying325
 a85:=isAgg325
 z85:=sizeOf325
 v85:=zeroValue325
 t127:=underlying247
 a127:=isAgg247
 z127:=sizeOf247
 v127:=zeroValue247
 t143:=underlying338
 a143:=isAgg338
 z143:=sizeOf338
 v143:=zeroValue338
 t145:=underlying340
 a145:=isAgg340
 z145:=sizeOf340
 v145:=zeroValue340
 t167:=underlying324
 a167:=isAgg324
 z167:=sizeOf324
 v167:=zeroValue324
 t168:=underlying327
 a168:=isAgg327
 z168:=sizeOf327
 v168:=zeroValue327
 t171:=underlying305
 a171:=isAgg305
 z171:=sizeOf305
 v171:=zeroValue305
 t173:=underlying307
 a173:=isAgg307
 z173:=sizeOf307
 v173:=zeroValue307
 t175:=underlying331
 a175:=isAgg331
 z175:=sizeOf331
 v175:=zeroValue331
 t210:=underlying335
 a210:=isAgg335
 z210:=sizeOf335
 v210:=zeroValue335
 t212:=underlying320
 a212:=isAgg320
 z212:=sizeOf320
 v212:=zeroValue320
 t213:=underlying321
 a213:=isAgg321
 z213:=sizeOf321
 t232:=underlying330
 a232:=isAgg330
 z232:=sizeOf330
 v232:=zeroValue330
 t233:=underlying304
 a233:=isAgg304
 z233:=sizeOf304
 v233:=zeroValue304
 g15:=by kernel_rfl
 g16:=by kernel_rfl
 g17:=by kernel_rfl
 g18:=by kernel_rfl
 g19:=by kernel_rfl }
open Go.RowKit in
theorem Tryz.strconv_Atoi (s:ByteArray) (n:Int) (hl:s.size<=18) (h:Lib.atoi s.data.toList=some n) (w:World) :
 Calls prog 280 #[.string s] w λe w'=>e=.returned (.tuple #[.int .i64 n,.nilIface])/\∃t,w'=Lib.bytesWorld w 5 t:=Any.strconv_Atoi Tryz.lays172 s n hl h w
def Tryz.laysM171_ren:Go.Shelf.Ren:=⟨λ| 171=>108 | 243=>175 | 246=>238 | 283=>270 | 284=>271 | 285=>272 | 286=>273 | 129=>213 | 317=>285 | 318=>286 | 319=>287 | 320=>288 | 337=>292 | 338=>234 | n=>n,λ| 3=>3 | 9=>9 | 2=>2 | 4=>4 | 171=>305 | 0=>0 | 53=>135 | 37=>177 | 5=>5 | 173=>307 | 212=>320 | 51=>266 | 20=>20 | 213=>321 | 46=>199 | 232=>330 | 233=>304 | n=>n,λ| 17=>1 | 18=>2 | 19=>0 | n=>n⟩
theorem Tryz.laysM171:Go.Proofs.LaysM.n171 prog Tryz.laysM171_ren:={
 mixed:=by kernel_rfl
 f129:=func213.trans (congrArg some (by kernel_rfl))
 f171:=func108.trans (congrArg some (by kernel_rfl))
 f243:=func175.trans (congrArg some (by kernel_rfl))
 f246:=func238.trans (congrArg some (by kernel_rfl))
 f283:=func270.trans (congrArg some (by kernel_rfl))
 f284:=func271.trans (congrArg some (by kernel_rfl))
 f285:=func272.trans (congrArg some (by kernel_rfl))
 f286:=func273.trans (congrArg some (by kernel_rfl))
 f317:=func285.trans (congrArg some (by kernel_rfl))
 f318:=func286.trans (congrArg some (by kernel_rfl))
 f319:=func287.trans (congrArg some (by kernel_rfl))
 f320:=func288.trans (congrArg some (by kernel_rfl))
 f337:=func292.trans (congrArg some (by kernel_rfl))
 f338:=func234.trans (congrArg some (by kernel_rfl))
 t0:=underlying0
 a0:=isAgg0
 z0:=sizeOf0
 v0:=zeroValue0
 t2:=underlying2
 a2:=isAgg2
 z2:=sizeOf2
 v2:=zeroValue2
 t3:=underlying3
 a3:=isAgg3
 z3:=sizeOf3
 v3:=zeroValue3
 t4:=underlying4
 a4:=isAgg4
 z4:=sizeOf4
 v4:=zeroValue4
 t5:=underlying5
 a5:=isAgg5
 z5:=sizeOf5
 v5:=zeroValue5
 t9:=underlying9
 a9:=isAgg9
 z9:=sizeOf9
 v9:=zeroValue9
 t20:=underlying20
 a20:=isAgg20
 z20:=sizeOf20
 v20:=zeroValue20
 t37:=underlying177
 a37:=isAgg177
 z37:=sizeOf177
 v37:=zeroValue177
 t46:=underlying199
 a46:=isAgg199
 z46:=sizeOf199
 v46:=zeroValue199
 t51:=underlying266
 a51:=isAgg266
 z51:=sizeOf266
 v51:=zeroValue266
 t53:=underlying135
 a53:=isAgg135
 z53:=sizeOf135
 v53:=zeroValue135
 t171:=underlying305
 a171:=isAgg305
 z171:=sizeOf305
 v171:=zeroValue305
 t173:=underlying307
 a173:=isAgg307
 z173:=sizeOf307
 v173:=zeroValue307
 t212:=underlying320
 a212:=isAgg320
 z212:=sizeOf320
 v212:=zeroValue320
 t213:=underlying321
 a213:=isAgg321
 z213:=sizeOf321
 t232:=underlying330
 a232:=isAgg330
 z232:=sizeOf330
 v232:=zeroValue330
 t233:=underlying304
 a233:=isAgg304
 z233:=sizeOf304
 v233:=zeroValue304
 g17:=by kernel_rfl
 g18:=by kernel_rfl
 g19:=by kernel_rfl
 i0:=by kernel_rfl
 i2:=by kernel_rfl
 i3:=by kernel_rfl
 i4:=by kernel_rfl
 i5:=by kernel_rfl
 i9:=by kernel_rfl
 i20:=by kernel_rfl
 i37:=by kernel_rfl
 i46:=by kernel_rfl
 i51:=by kernel_rfl
 i53:=by kernel_rfl
 i171:=by kernel_rfl
 i173:=by kernel_rfl
 i212:=by kernel_rfl
 i232:=by kernel_rfl
 i233:=by kernel_rfl
 m17:=by kernel_rfl
 m18:=by kernel_rfl
 m19:=by kernel_rfl }
open Go.RowKit Go.Sort Go.Lib in
theorem Tryz.strconv_Itoa (n:Int) (h0:-9223372036854775808<=n) (h1:n<=9223372036854775807) (w:World) (OQ:Lib.TabIs prog w "internal/strconv.uint64pow10" .u64 Lib.pow10Tab) :
 Calls prog 108 #[.int .i64 n] w λe w'=>e=.returned (.string ⟨(Lib.itoa n).toArray⟩)/\∃k os,w'=grow (w.drewN k) os:=Any.strconv_Itoa Tryz.laysM171 n h0 h1 w OQ
end Go.Proofs
namespace Go.Proofs.YtndcpnlaadikoaaGreatDoor
open Go.RowKit
theorem zSq (c:UInt8) (h:48<=c.toNat/\c.toNat<=57):Lib.digitVal c=some (c.toNat - 48):=by
 unfold Lib.digitVal;simp[h.1,h.2]
theorem kh:∀(l:List UInt8) (n:Nat),(∀c∈l,48<=c.toNat/\c.toNat<=57)->∃k:Nat,Lib.decFrom n l=some k/\l.foldl (λn c=>n * 10+((c.toNat:Int) - 48)) (n:Int)=(k:Int)
 | [],n,_=>⟨n,by simp[Lib.decFrom],rfl⟩
 | c :: l,n,h=>by
   have hc:=h c (Zk ..);obtain⟨k,h1,h2⟩:=kh l (n * 10+(c.toNat - 48)) λd hd=>h d (Y2 _ hd)
   refine⟨k,?_,?_⟩
   ·rw[Lib.decFrom,zSq c hc];exact h1
   simp only[Nt];rw[<-h2]
   congr 1
   omega
theorem zUm (l:List UInt8) (h0:l≠[]) (h:∀c∈l,48<=c.toNat/\c.toNat<=57):Lib.atoi l=some (digV l):=by
 obtain⟨k,h1,h2⟩:=kh l 0 h;have hd:Lib.decNat l=some k:=by
  unfold Lib.decNat;cases l with
  | nil=>exact absurd rfl h0
  | cons a l=>simpa using h1
 have hv:digV l=(k:Int):=h2;rw[hv];cases l with
 | nil=>exact absurd rfl h0
 | cons a l =>
   have ha:=h a (Zk ..);have e1:(a==45)=false:=by
    rw[beq_eq_false_iff_ne];intro e;subst e;exact absurd ha.1 (by decide)
   have e2:(a==43)=false:=by
    rw[beq_eq_false_iff_ne];intro e;subst e;exact absurd ha.1 (by decide)
   simp only[Lib.atoi];rw[e1,e2,if_neg (by simp),if_neg (by simp),hd]
   rfl
theorem IV (l:List UInt8) (h4:l.length<=4) (h:∀c∈l,48<=c.toNat/\c.toNat<=57):0<=digV l/\digV l<=9999:=by
 unfold digV
 match l,h4 with
 | [],_=>simp
 | [a],_=>have:=h a (by simp);simp;omega
 | [a,b],_=>have:=h a (by simp);have:=h b (by simp);simp;omega
 | [a,b,c],_=>have:=h a (by simp);have:=h b (by simp);have:=h c (by simp);simp;omega
 | [a,b,c,d],_=>have:=h a (by simp);have:=h b (by simp);have:=h c (by simp);have:=h d (by simp);simp;omega
theorem kg (s:ByteArray) (h1:1<=s.size/\s.size<=4) (hd:∀c∈s.data.toList,48<=c.toNat/\c.toNat<=57) (w:World) :
 Calls prog 280 #[.string s] w λe w'=>e=.returned (.tuple #[.int .i64 (digV s.data.toList),.nilIface])/\Bw w w':=by
 have ZP:s.data.toList≠[]:=by
  intro e;have:s.data.toList.length=0:=by rw[e];rfl
  have h2:s.data.toList.length=s.size:=K_;omega
 refine (Tryz.strconv_Atoi s _ (by omega) (zUm _ ZP hd) w).mono ?_
 rintro e w' ⟨rfl,t,rfl⟩;exact⟨rfl,Lib.bytesWorld_below _ _ _⟩
theorem kf {N R M:Nat} {en:Int} {w:World} {l:List Tok} (h:Rd N R M en w l) (hk:(ZL en l).kind=2):(1<=(ZL en l).text.size/\(ZL en l).text.size<=4)/\∀c∈(ZL en l).text.data.toList,48<=c.toNat/\c.toNat<=57:=by
 obtain⟨_,v,_,_,_,_,_,ht,_⟩:=h;cases l with
 | nil=>exact absurd hk (by show ¬(0:Int)=2;decide)
 | cons t r=>exact (ht.2 t (Zk ..)).2 hk
theorem ke {en:Int} {l:List Tok} (h:((ZL en l).kind==2)=true):l≠[]:=by
 intro hl;subst hl;have h2:((0:Int)==2)=true:=h;simp at h2
theorem zOe:We ⟨#[45]⟩:=by unfold We;simp[go_sem]
theorem BX (N R M:Nat) (en:Int) (w:World) (l:List Tok) (h:Rd N R M en w l) :
 Calls prog 261 #[.pointer (some ⟨R,0,none⟩)] w (Vy (Yi en l) (λi v _=>v=.int .i64 i/\-9999<=i/\i<=9999) N R M en (λk=>k=R) w):=by
 have Ye:=PW (ZL en l);have R7:=sK (ZL en l);have HB:=hI h;obtain⟨P,hP⟩:∃P,Yi en l=P:=⟨_,rfl⟩;have HP:=hI hP;rw[hP];cases hm:((ZL en l).text.toList==[45])
 ·have HM:=hI hm
  cases hK:((ZL en l).kind==2)
  ·have YB:Hid (P=(WU en false l).bind λt r=>.ok (1 * digV t.text.data.toList) r):=by show _=_;rw[<-hP];unfold Yi;rw[hm,hK];rfl
   clear hP h;go_enter func261,ntmps261
   go_wp2_with fail
   refine (Vz N R M en _ l HB.o).mono ?_;rintro e w1 ⟨rfl,Z5⟩;have Yl:=hI (HB.o.below Z5);have Xh:Hid (Fr (λk=>k=R) w w1):=Fr.below Z5
   unfold tokA;clear Z5;go_wp2_with fail
   refine (Vz N R M en _ l Yl.o).mono ?_;rintro e w2 ⟨rfl,ZY⟩;have Zy:=hI (Yl.o.below ZY);have Zo:Hid (Fr (λk=>k=R) w w2):=Xh.o.trans (Fr.below ZY)
   unfold tokA;clear ZY hm;go_wp2_with fail
   refine (MG N R M en false w2 l Zy.o (λhb=>by cases hb)).mono ?_
   intro e w3 hp;obtain⟨rfl,Z'⟩:=hp;have ZR:=Zo.o.trans Z';go_wp2
   exact⟨rfl,by rw[YB.o];exact⟨rfl,ZR⟩⟩
  have YB:Hid (P=(WU en true l).bind λt r=>.ok (1 * digV t.text.data.toList) r):=by show _=_;rw[<-hP];unfold Yi;rw[hm,hK];rfl
  have HL:Hid (l≠[]):=ke hK;obtain⟨hd1,hd2⟩:=kf h (by simpa using hK)
  have Uf:=hI hd2;have J9:=hI hd1;clear hP h hd1 hd2;go_enter func261,ntmps261
  go_wp2_with fail
  refine (Vz N R M en _ l HB.o).mono ?_;rintro e w1 ⟨rfl,Z5⟩;have Yl:=hI (HB.o.below Z5);have Xh:Hid (Fr (λk=>k=R) w w1):=Fr.below Z5
  unfold tokA;clear Z5;go_wp2_with fail
  refine (Vz N R M en _ l Yl.o).mono ?_;rintro e w2 ⟨rfl,ZY⟩;have Zy:=hI (Yl.o.below ZY);have Zo:Hid (Fr (λk=>k=R) w w2):=Xh.o.trans (Fr.below ZY)
  unfold tokA;clear ZY hm;go_wp2_with fail
  refine (MG N R M en true w2 l Zy.o (λ_=>HL.o)).mono ?_
  intro e w3 hp;obtain⟨v,rfl,rfl,ZV,Z'⟩:=hp;have VK:=hI (Zo.o.trans Z')
  have Tl:=hI ZV;clear Z' ZV;unfold tokA;go_wp2_with fail
  refine (kg _ J9.o Uf.o _).mono ?_;rintro e w4 ⟨rfl,Zd⟩;obtain⟨hv1,hv2⟩:=IV (ZL en l).text.data.toList (by have:=J9.o.2;have h2:(ZL en l).text.data.toList.length=(ZL en l).text.size:=K_;omega) Uf.o
  obtain⟨V,hV⟩:∃V,digV (ZL en l).text.data.toList=V:=⟨_,rfl⟩;have HV:=hI hV;rw[hV] at hv1 hv2 ⊢;have Wq:=hI (Tl.o.below Zd);have UX:Hid (Fr (λk=>k=R) w w4):=VK.o.trans (Fr.below Zd)
  clear Zd hV;go_wp2
  go_ret
  rw[YB.o];exact⟨_,rfl,⟨by rw[HV.o,Int.one_mul];rfl,by rw[HV.o];omega,by rw[HV.o];omega⟩,Wq.o,UX.o⟩
 have BW:(⟨#[45]⟩:ByteArray).toList=[45]:=by simp[go_sem]
 have St:Hid (Zv en ⟨#[45]⟩ l=.ok (ZL en l) l.tail):=by show _=_;unfold Zv WU;rw[BW,hm];rfl
 obtain⟨q,hq⟩:∃q,l.tail=q:=⟨_,rfl⟩;have HQ:=hI hq;have hg2:=PW (ZL en q);have Ua:=sK (ZL en q);have HOKQ:Hid (∀t∈q,Ly t):=by
  obtain⟨_,v,_,_,_,_,_,ht,_⟩:=h;intro t kc;rw[<-hq] at kc;exact ht.2 t (List.mem_of_mem_tail kc)
 have sH:Hid (P=(WU en (((ZL en q).kind==2)&&(!((ZL en q).text.toList==[48]))) q).bind λt r=>.ok (-1 * digV t.text.data.toList) r):=by
  show _=_;rw[<-hP];unfold Yi;rw[hm,if_pos rfl,St.o,<-hq];rfl
 clear hP h hq BW;go_enter func261,ntmps261
 go_wp2_with fail
 refine (Vz N R M en _ l HB.o).mono ?_;rintro e w1 ⟨rfl,Z5⟩;have Yl:=hI (HB.o.below Z5);have Xh:Hid (Fr (λk=>k=R) w w1):=Fr.below Z5
 unfold tokA;clear Z5;go_wp2_with fail
 refine (TF N R M en ⟨#[45]⟩ zOe w1 l Yl.o).mono ?_;intro e w2 hp;rw[St.o] at hp;obtain⟨v,rfl,rfl,ZV,Z'⟩:=hp;have Zy:Hid (Rd N R M en w2 q):=by rw[<-HQ.o];exact ZV
 have Zo:=hI (Xh.o.trans Z')
 clear ZV Z' hm R7 Ye;cases hK:((ZL en q).kind==2)
 ·have YB:Hid (P=(WU en false q).bind λt r=>.ok (-1 * digV t.text.data.toList) r):=by show _=_;rw[sH.o,hK];rfl
  go_wp2_with fail
  refine (Vz N R M en _ q Zy.o).mono ?_;rintro e w3 ⟨rfl,ZG⟩;have Ys:=hI (Zy.o.below ZG);have Yw:Hid (Fr (λk=>k=R) w w3):=Zo.o.trans (Fr.below ZG)
  unfold tokA;clear ZG;go_wp2_with fail
  refine (MG N R M en false w3 q Ys.o (λhb=>by cases hb)).mono ?_
  intro e w4 hp;obtain⟨rfl,Z'⟩:=hp;have ZR:=Yw.o.trans Z';go_wp2
  exact⟨rfl,by rw[YB.o];exact⟨rfl,ZR⟩⟩
 have HL:Hid (q≠[]):=ke hK;have hd:(1<=(ZL en q).text.size/\(ZL en q).text.size<=4)/\∀c∈(ZL en q).text.data.toList,48<=c.toNat/\c.toNat<=57:=kf Zy.o (by simpa using hK)
 have Uf:=hI hd.2;have J9:=hI hd.1;clear hd;cases hz:((ZL en q).text.toList==[48])
 rotate_left
 ·have YB:Hid (P=(WU en false q).bind λt r=>.ok (-1 * digV t.text.data.toList) r):=by show _=_;rw[sH.o,hK,hz];rfl
  go_wp2_with fail
  refine (Vz N R M en _ q Zy.o).mono ?_;rintro e w3 ⟨rfl,ZG⟩;have Ys:=hI (Zy.o.below ZG);have Yw:Hid (Fr (λk=>k=R) w w3):=Zo.o.trans (Fr.below ZG)
  unfold tokA;clear ZG;go_wp2_with fail
  refine (Vz N R M en _ q Ys.o).mono ?_;rintro e w4 ⟨rfl,Zd⟩;have Wq:=hI (Ys.o.below Zd);have UX:Hid (Fr (λk=>k=R) w w4):=Yw.o.trans (Fr.below Zd)
  unfold tokA;clear Zd;go_wp2_with fail
  refine (MG N R M en false w4 q Wq.o (λhb=>by cases hb)).mono ?_
  intro e w5 hp;obtain⟨rfl,Z'⟩:=hp;have ZR:=UX.o.trans Z';go_wp2
  exact⟨rfl,by rw[YB.o];exact⟨rfl,ZR⟩⟩
 have YB:Hid (P=(WU en true q).bind λt r=>.ok (-1 * digV t.text.data.toList) r):=by show _=_;rw[sH.o,hK,hz];rfl
 go_wp2_with fail
 refine (Vz N R M en _ q Zy.o).mono ?_;rintro e w3 ⟨rfl,ZG⟩;have Ys:=hI (Zy.o.below ZG);have Yw:Hid (Fr (λk=>k=R) w w3):=Zo.o.trans (Fr.below ZG)
 unfold tokA;clear ZG;go_wp2_with fail
 refine (Vz N R M en _ q Ys.o).mono ?_;rintro e w4 ⟨rfl,Zd⟩;have Wq:=hI (Ys.o.below Zd);have UX:Hid (Fr (λk=>k=R) w w4):=Yw.o.trans (Fr.below Zd)
 unfold tokA;clear Zd;go_wp2_with fail
 refine (MG N R M en true w4 q Wq.o (λ_=>HL.o)).mono ?_
 intro e w5 hp;obtain⟨v,rfl,rfl,ZV,Z'⟩:=hp;have VK:=hI (UX.o.trans Z')
 have Tl:=hI ZV;clear Z' ZV;unfold tokA;go_wp2_with fail
 refine (kg _ J9.o Uf.o _).mono ?_;rintro e w6 ⟨rfl,Yz⟩;obtain⟨hv1,hv2⟩:=IV (ZL en q).text.data.toList (by have:=J9.o.2;have h2:(ZL en q).text.data.toList.length=(ZL en q).text.size:=K_;omega) Uf.o
 obtain⟨V,hV⟩:∃V,digV (ZL en q).text.data.toList=V:=⟨_,rfl⟩;have HV:=hI hV;rw[hV] at hv1 hv2 ⊢;have U4:=hI (Tl.o.below Yz);have VA:Hid (Fr (λk=>k=R) w w6):=VK.o.trans (Fr.below Yz)
 clear Yz hV;go_wp2
 go_ret
 rw[YB.o];exact⟨_,rfl,⟨by rw[HV.o];first | rfl | (rw[Int.neg_one_mul];rfl),by rw[HV.o];omega,by rw[HV.o];omega⟩,U4.o,VA.o⟩
open Go.RowKit Go.Maps
def nmD:List ByteArray->DataW Unit:=λl=>(l.zipIdx).foldl (λD p=>D.put (.string p.1.data.toList) (.lit (.int .i64 (p.2:Int)))) (.map [])
theorem sG (l:List ByteArray) (n:ByteArray):nmD (l++[n])=(nmD l).put (.string n.data.toList) (.lit (.int .i64 (l.length:Int))):=by
 unfold nmD;rw[List.zipIdx_append,List.foldl_append];simp
theorem ka {α:Type} {P:List α->Prop} (h0:P []) (h1:∀l a,P l->P (l++[a])):∀l,P l:=by
 intro l;rw[<-List.reverse_reverse l];generalize l.reverse=m
 induction m with
 | nil=>exact h0
 | cons a m ih=>rw[List.reverse_cons];exact h1 _ _ ih
theorem j_ (l:List ByteArray):IsMap (nmD l):=by
 induction l using ka with
 | h0=>exact isMap_empty
 | h1 l n ih=>rw[sG];exact ih.put _ _
theorem zUn (s:ByteArray) (l:List ByteArray):Maps.has (nmD l) (.string s.data.toList)=(Wo l s).2/\(nmD l).atKey (.string s.data.toList) (.lit (.int .i64 0))=.lit (.int .i64 (Wo l s).1):=by
 induction l using ka with
 | h0=>exact⟨rfl,rfl⟩
 | h1 l n ih =>
   rw[sG,kv];by_cases h:n.data.toList=s.data.toList
   ·rw[if_pos h,h]
    exact⟨has_put_same (k:=.string s.data.toList) (j_ l) (show WideAt.IsKeyLit (.string s.data.toList) from trivial) _,atKey_put_same (k:=.string s.data.toList) (j_ l) (show WideAt.IsKeyLit (.string s.data.toList) from trivial) _ _⟩
   rw[if_neg h,has_put_other (λe=>h (Lit.string.inj e).symm),atKey_put_other (λe=>h (Lit.string.inj e).symm)]
   exact ih
def NmS (w:World) (M:Nat) (l:List ByteArray):Prop:=w.ownsMap prog 9 (plainElem prog 3) M l.length (nmD l)
theorem NmS.old {w w':World} {M:Nat} {l:List ByteArray} (h:NmS w M l) (hb:w'.heap[M]? = w.heap[M]?):NmS w' M l:=by
 obtain⟨es,clock,hm,F,hs,hd⟩:=h;exact⟨es,clock,hb.trans hm,F,hs,hd⟩
theorem NmS.lt {w:World} {M:Nat} {l:List ByteArray} (h:NmS w M l):M<w.heap.size:=by
 obtain⟨es,clock,hm,_⟩:=h;exact (Z8.1 hm).1
theorem j':prog.underlying 207=some (.map 9 3):=by kernel_rfl
theorem j9:Keyed prog 9:=string_keyed underlying9
theorem yAY (w:World):(zeroValue 3).run prog w=.ok (.int .i64 0) w:=by kernel_rfl
theorem zQw (w:World) (M:Nat) (l:List ByteArray) (s:ByteArray) (hs:s.size<=maxLen) (h:NmS w M l) :
 Sem.run prog (Instr.lookup 207 (.map (some M)) (.string s) true) w=.ok (.tuple #[.int .i64 (Wo l s).1,.bool (Wo l s).2]) w:=by
 obtain⟨v,ps,XW,hv⟩:=h.look_ok j9 j' (yAY w) (plainElem_int (H:=Unit) underlying3 (by decide)) (WideMaps.keyOf_string_mk underlying9 hs)
 obtain⟨a,rfl,ha,_⟩:=plainElem_int_inv underlying3 hv;obtain⟨h1,h2⟩:=zUn s l;rw[h2] at ha;have h3:=congrArg Prod.fst ha;have h4:(Wo l s).1=a:=by cases h3;rfl
 rw[XW,h1,h4]
theorem zQx {w2 Y w3:World} {A:Prop} (h:Bw w2 Y/\A) (hb:Bw Y w3):Bw w2 w3:=h.1.trans (hb.mono h.1.size)
theorem Lw (N R M:Nat) (en:Int) (names:List ByteArray) (w:World) (l:List Tok) (h:Rd N R M en w l) (hn:NmS w M names) (ZP:∀n∈names,n.data.toList≠[]) :
 Calls prog 265 #[.pointer (some ⟨R,0,none⟩)] w (Vy (X7 en names l) (λi v _=>v=.int .i64 i) N R M en (λk=>k=R) w):=by
 have Ye:=PW (ZL en l);have HB:=hI h;have XF:Hid ((ZL en l).text.size<=maxLen):=ki h;have GA:Hid (M<w.heap.size):=hn.lt;have Gf:=hI hn;obtain⟨ri,Dd⟩:∃ri,(Wo names (ZL en l).text).1=ri:=⟨_,rfl⟩;obtain⟨rb,yK⟩:∃rb,(Wo names (ZL en l).text).2=rb:=⟨_,rfl⟩;obtain⟨nb,IU⟩:∃nb,Pf (ZL en l).text=nb:=⟨_,rfl⟩;have MF:=hI IU;have N4:Hid (∀Y:World,Bw w Y->Sem.run prog (Instr.lookup 207 (.map (some M)) (.string (ZL en l).text) true) Y=.ok (.tuple #[.int .i64 ri,.bool rb]) Y):=by
  intro Y hY;rw[zQw Y M names _ XF.o (Gf.o.old (hY.block M GA.o)),Dd,yK]
 have HL:Hid (rb=true->l≠[]):=by
  intro hb hl;subst hl;have h2:(Wo names ByteArray.empty).2=rb:=yK;rw[ku names ZP,hb] at h2;cases h2
 obtain⟨P,hP⟩:∃P,X7 en names l=P:=⟨_,rfl⟩;have HP:Hid (P=if rb then (WU en true l).bind λ_ r=>.ok ri r else if nb then .bad (ZL en l).place 5 else .bad (ZL en l).place 1):=by
  show _=_;rw[<-hP];unfold X7;rw[Dd,yK,IU]
 rw[hP];obtain⟨_,v,hR,_⟩:=h;have c2:w.cell? ⟨R,2,none⟩=some (.map (some M)):=by rw[Lib.cell_of_heap hR];rfl
 have Gh:R<w.heap.size:=(Z8.1 hR).1;have sF:Hid (∀Y:World,Bw w Y->Calls prog 220 #[.pointer (some ⟨R,0,none⟩)] Y λe w'=>e=.returned (.agg #[.int .i64 (ZL en l).kind,.int .i64 (ZL en l).place,.string (ZL en l).text])/\Bw Y w'):=λY hY=>Vz N R M en Y l (HB.o.below hY)
 have hlk0:=N4.o _ (Z6 _ _).drew;clear Dd yK IU hP hR hn ZP;go_enter func265,ntmps265
 go_wp2_with fail
 go_region_held3 (λw'=>Bw w w'/\w'.cell? ⟨R,2,none⟩=some (.map (some M))/\Sem.run prog (Instr.lookup 207 (.map (some M)) (.string (ZL en l).text) true) w'=.ok (.tuple #[.int .i64 ri,.bool rb]) w')
  ((refine (λ(hB:Bw w _)=>⟨hB,(hB.cell (p:=⟨R,2,none⟩) Gh).trans c2,N4.o _ hB⟩:Bw w _->_) ?_;first | exact (Z6 _ _).drew | exact Un | exact (show Bw w _/\_/\_ by assumption).1))
  (first
    | (go_at_call 220;refine (sF.o _ (show Bw w _/\_/\_ by assumption).1).mono ?_;rintro e w1 ⟨rfl,Yu⟩;have Un:=zQx (by assumption) Yu))
 have Yl:=hI (HB.o.below Un);have Xh:Hid (Fr (λk=>k=R) w w1):=Fr.below Un
 cases rb
 ·go_wp2_with fail
  refine (Vz N R M en _ l Yl.o).mono ?_;rintro e w2 ⟨rfl,ZY⟩;have Zy:=hI (Yl.o.below ZY);have Zo:Hid (Fr (λk=>k=R) w w2):=Xh.o.trans (Fr.below ZY)
  unfold tokA;clear ZY;go_wp2_with fail
  refine (kn _ XF.o _).mono ?_;rintro e w3 ⟨rfl,ZG⟩;rw[MF.o];have Ys:=hI (Zy.o.below ZG);have Yw:Hid (Fr (λk=>k=R) w w3):=Zo.o.trans (Fr.below ZG)
  clear ZG;cases nb
  ·have YB:Hid (P=.bad (ZL en l).place 1):=HP.o
   go_wp2_with fail
   refine (MG N R M en false w3 l Ys.o (λhb=>by cases hb)).mono ?_
   intro e w4 hp;obtain⟨rfl,Z'⟩:=hp;have ZR:=Yw.o.trans Z';go_wp2
   exact⟨rfl,by rw[YB.o];exact⟨rfl,ZR⟩⟩
  have YB:Hid (P=.bad (ZL en l).place 5):=HP.o;go_wp2_with fail
  refine (sJ N R M en 5 _ l Ys.o).mono ?_;rintro e w4 ⟨rfl,Zd⟩;have ZR:=Yw.o.trans (Fr.below Zd);go_wp2
  exact⟨rfl,by rw[YB.o];exact⟨rfl,ZR⟩⟩
 have YB:Hid (P=(WU en true l).bind λ_ r=>.ok ri r):=HP.o
 go_wp2_with fail
 refine (MG N R M en true w1 l Yl.o (λ_=>HL.o (by first | rfl | trivial))).mono ?_
 intro e w4 hp;obtain⟨v,rfl,rfl,ZV,Z'⟩:=hp;have ZR:=Xh.o.trans Z';unfold tokA;go_wp2
 go_ret
 rw[YB.o];exact⟨_,rfl,rfl,ZV,ZR⟩
end Go.Proofs.YtndcpnlaadikoaaGreatDoor
