/- What the proof leans on, part 46. -/
import Derived.Test.YtdjbejlbmaiocagGreatDoorPartBs
set_option maxRecDepth 100000
set_option maxHeartbeats 4000000
namespace Go.Proofs.YtdjbejlbmaiocagGreatDoor
open Go.RowKit
def zDH (s:ByteArray):Mod×Int×Int :=
 if (zAO s).2.2=0 then
  if (zDD s.size (zAO s).1 ⟨0,0⟩).2.er=0 then
   if zCq (zDD s.size (zAO s).1 ⟨0,0⟩).1=0 then ((zDD s.size (zAO s).1 ⟨0,0⟩).1,0,0) else (zEG,0,zCq (zDD s.size (zAO s).1 ⟨0,0⟩).1)
  else (zEG,(zAI s.size ((zAO s).1.drop (zDD s.size (zAO s).1 ⟨0,0⟩).2.k)).place,(zDD s.size (zAO s).1 ⟨0,0⟩).2.er)
 else (zEG,(zAO s).2.1,(zAO s).2.2)
theorem zRX {s:ByteArray} {ts:List Tok} {a:Nat} {m:Mod} {p:RP} (hs:zAO s=(ts,a,0)) (hr:zDD s.size ts ⟨0,0⟩=(m,p)) (hp:p.er=0) (hc:zCq m=0):zDH s=(m,0,0):=by
 unfold zDH;simp[hs,hr,hp,hc]
theorem zMH {s:ByteArray} {ts:List Tok} {a:Nat} {m:Mod} {p:RP} (hs:zAO s=(ts,a,0)) (hr:zDD s.size ts ⟨0,0⟩=(m,p)) (hp:p.er=0) (hc:¬zCq m=0):zDH s=(zEG,0,zCq m):=by
 unfold zDH;simp[hs,hr,hp,hc]
theorem zNQ {s:ByteArray} {ts:List Tok} {a:Nat} {m:Mod} {p:RP} (hs:zAO s=(ts,a,0)) (hr:zDD s.size ts ⟨0,0⟩=(m,p)) (hp:¬p.er=0):zDH s=(zEG,(zAI s.size (ts.drop p.k)).place,p.er):=by
 unfold zDH;simp[hs,hr,hp]
theorem zNR {s:ByteArray} {ts:List Tok} {a:Nat} {e:Int} (hs:zAO s=(ts,a,e)) (he:¬e=0):zDH s=(zEG,(a:Int),e):=by
 unfold zDH;simp[hs,he]
theorem zUJ (en:Int) (T:List Tok) (p:RP) (wd:List UInt8) (hw:(ByteArray.empty.toList==wd)=false) (h:((txR en T p).toList==wd)=true):p.er=0:=by
 apply Classical.byContradiction;intro he;rw[zDB en T p he,hw] at h;cases h
theorem zRY (en:Int) (T:List Tok):zHX (zDd en T):=fun p=>by
 unfold zDd
 dsimp only
 split
 ·show p.k≤p.k+1;omega
 ·rw[zHC];exact Nat.le_refl _
theorem zS0 (en:Int) (T:List Tok) (p:RP) (h:((txR en T p).toList==[118,97,114])=true):p.k+1≤(zCr en T p).2.k:=by
 have he:=zUJ en T p _ (by decide +kernel) h
 have h1:(zAU en T varW p).k=p.k+1:=by
  unfold zAU;rw[if_pos he,if_pos (by rw[show varW.toList=[118,97,114] by unfold varW;rw[ByteArray.toList_eq]];exact h)]
  rfl
 rw[←h1];unfold zCr;exact Nat.le_trans (zRY en T _) (Nat.le_trans (zKA en T _ _) (Nat.le_trans (k_k en T _) (Nat.le_trans (zKA en T _ _) (Nat.le_trans (k_k en T _) (zKA en T _ _)))))
theorem zTE {α:Type} (en:Int) (T:List Tok) (wd:List UInt8) (f:RP→α×RP) (n:Nat) (acc:List α) (p:RP) (h:((txR en T p).toList==wd)=true):rowR en T wd f (n+1) acc p=rowR en T wd f n (acc++[(f p).1]) (f p).2:=by
 conv=>lhs;unfold rowR
 rw[if_pos h]
theorem zRZ {α:Type} (en:Int) (T:List Tok) (wd:List UInt8) (f:RP→α×RP) (n:Nat) (acc:List α) (p:RP) (h:((txR en T p).toList==wd)=false):rowR en T wd f n acc p=(acc,p):=by
 cases n with
 | zero=>rfl
 | succ n=>unfold rowR;rw[if_neg (by rw[h];simp)]
theorem zTv (en:Int) (T:List Tok) (hT:∀t∈T,zJE t) (p:RP):(txR en T p).size≤4000:=by
 unfold txR
 split
 ·by_cases hk:p.k<T.length
  ·exact (hT _ (zHl en T p.k hk)).1
  ·rw[zFY en T p.k hk];exact Nat.zero_le _
 ·exact Nat.zero_le _
theorem zTw (en:Int) (T:List Tok) (p:RP) (h:zAb (txR en T p)=true):p.k+1≤T.length∧p.er=0:=by
 have he:p.er=0:=by
  apply Classical.byContradiction;intro he;rw[zDB en T p he,zCn] at h;cases h
 refine⟨?_,he⟩;have:=zIz en T p.k (fun h0=>by rw[zDC en T p he,h0,zCn] at h;cases h)
 omega
theorem LCr.setR {B:Nat} {w:World} {v:Value} {acc:List MCon} (h:LCr B w v acc) {C:Nat} {cs:Array Value} (hC:w.heap[C]? = some (.cells cs 99)) (i:Nat) (u:Value):LCr B (w.setCell ⟨C,i,Option.none⟩ u) v acc:=by
 obtain⟨cells,h1,h2⟩:=h;refine⟨cells,zAu h1 hC (by decide) i u,fun j r hr=>?_⟩
 obtain⟨vv,vc,vr,vl,hc,ho⟩:=h2 j r hr;exact⟨vv,vc,vr,vl,hc,ho.set2 hC (by decide) (by decide) (by decide) i u⟩
theorem zUK (en:Int) (T:List Tok) (nm:List ByteArray):zHX (conR en T nm):=fun p=>by
 have hw:=zRK en T p zBy.tail 0;refine Nat.le_trans hw ?_;unfold conR;generalize (zAn en T p zBy.tail 0).2=p1;generalize 1+(zAn en T p zBy.tail 0).1=k;have hks:=zL9 (en:=en) (T:=T) (k_k en T);have hvs:=zL9 (en:=en) (T:=T) (v_k en T nm);unfold zFZ
 split
 ·exact Nat.le_trans (hks p1) (Nat.le_trans (hvs _) (k_k en T _))
 split
 ·exact hvs p1
 split
 ·exact Nat.le_trans (hks p1) (Nat.le_trans (v_k en T nm _) (v_k en T nm _))
 split
 ·exact Nat.le_trans (hvs p1) (zL9 hks _)
 split
 ·exact Nat.le_trans (v_k en T nm p1) (Nat.le_trans (v_k en T nm _) (v_k en T nm _))
 split
 ·exact Nat.le_trans (v_k en T nm p1) (hvs _)
 split
 ·exact zL9 (zTt en T nm) p1
 split
 ·exact Nat.le_trans (v_k en T nm p1) (zTt en T nm _)
 ·exact Nat.le_refl _
theorem zRa (en:Int) (T:List Tok) (nm:List ByteArray) (p:RP) (h:((txR en T p).toList==[99,111,110])=true):p.k+1≤(zBw en T nm p).2.k:=by
 have he:=zUJ en T p _ (by decide +kernel) h
 have h1:(zAU en T conW p).k=p.k+1:=by
  unfold zAU;rw[if_pos he,if_pos (by rw[show conW.toList=[99,111,110] by unfold conW;rw[ByteArray.toList_eq]];exact h)]
  rfl
 rw[←h1];unfold zBw;exact Nat.le_trans (zUK en T nm _) (zKA en T _ _)
theorem LCr.mono {B B':Nat} {w:World} {v:Value} {acc:List MCon} (h:LCr B w v acc) (hb:B'≤B):LCr B' w v acc:=by
 obtain⟨cells,h2,h3⟩:=h;refine⟨cells,zAi h2 hb,fun i c hc=>?_⟩
 obtain⟨vv,vc,vr,vl,hcl,ho⟩:=h3 i c hc;exact⟨vv,vc,vr,vl,hcl,ho.mono hb⟩
theorem zS1 {B R:Nat} {w W w':World} (h:Below B w W) (hB:B≤W.heap.size) (hf:Fr (XR9 R) W w') (hR:B≤R):Below B w w' :=
 ⟨hf.os.trans h.os,hf.tape.trans h.tape,hf.output.trans h.output,Nat.le_trans h.size hf.size,fun k hk=>(hf.block k (by omega) (by show ¬k=R;omega)).trans (h.block k hk)⟩
theorem zNS:∀s∈zCZ,zBz s:=by
 intro s hs;simp only[zCZ,List.mem_cons,List.not_mem_nil,or_false] at hs;rcases hs with rfl | rfl | rfl <;> (unfold zBz;rw[ByteArray.toList_eq,ByteArray.toList_eq];rfl)
theorem zPR (s:ByteArray) (hs:s.size≤maxLen) (w:World) :
 Calls Tryz.prog 22 #[.string s] w fun e w'=>∃vs cs,e=.returned (.tuple #[modV vs cs (zDH s).1,.int .i64 (zDH s).2.1,.int .i64 (zDH s).2.2])∧ModR w.heap.size w' vs cs (zDH s).1∧Below w.heap.size w w':=by
 obtain⟨m0,x0,e0,hA⟩:∃m0 x0 e0,zDH s=(m0,x0,e0):=⟨_,_,_,rfl⟩;have HA:Hid (zDH s=(m0,x0,e0)):=hA;rw[hA];simp only;clear hA;obtain⟨ts,at1,e1,hsc⟩:∃ts at1 e1,zAO s=(ts,at1,e1):=⟨_,_,_,rfl⟩;have HSC:Hid (zAO s=(ts,at1,e1)):=hsc;have HTK:Hid ((∀t∈ts,zJE t)∧ts.length≤4000):=by have h:=zLq s;rw[hsc] at h;exact h
 have HSO:Hid (zGF ts):=by have h:=zKD s;rw[hsc] at h;exact h
 have HSS:Hid (s.size≤maxLen):=hs;obtain⟨iV,hiV,hzV0,hzV1,hzV2⟩:=info_parts Tryz.infoVar5;obtain⟨iC,hiC,hzC0,hzC1,hzC2⟩:=info_parts Tryz.infoCon5;clear hsc;unfold maxLen at hs;go_enter Tryz.func22,Tryz.ntmps22
 go_wp2_with fail
 have HBA:=zAA w (.cells #[.slice none 0 0,.slice none 0 0,.int .i64 0,.int .i64 0] 25);have HQ0:(w.alloc (.cells #[.slice none 0 0,.slice none 0 0,.int .i64 0,.int .i64 0] 25)).heap[w.heap.size]? = some (.cells #[.slice none 0 0,.slice none 0 0,.int .i64 0,.int .i64 0] 25):=heap_alloc_new _ _;refine (zRV s HSS.out _).mono ?_;rw[HSC.out];rintro e w1 ⟨v1,rfl,hown1,hb1⟩;have HO1:Hid (TArg w1.heap.size w1 v1 ts):=zN7 hown1 HTK.out.2 HTK.out.1;have HB1:Hid (Below w.heap.size w w1):=HBA.trans (hb1.mono (by simp))
 have HQ1:Hid (w1.heap[w.heap.size]? = some (.cells #[.slice none 0 0,.slice none 0 0,.int .i64 0,.int .i64 0] 25)):=(hb1.block _ (by simp)).trans HQ0
 obtain⟨av,cv,hv1⟩:=zAB hown1;subst hv1;clear hown1 hb1 HBA HQ0;by_cases he1:e1=0
 ·subst he1
  have HSR:Hid (RSt ⟨w1.heap.size,w1.heap.size,w1.heap.size,s.size,ts,[],.slice none 0 0,.slice none 0 0,0,0⟩ ⟨0,0⟩ (w1.alloc (.cells #[.slice av ts.length cv,.int .i64 0,.int .i64 s.size,.int .i64 0,.slice none 0 0,.slice none 0 0,.int .i64 0,.int .i64 0] 99))):=by
   refine⟨Nat.le_refl _,by simp,by simp,Nat.zero_le _,fun t ht hd=>(HSO.out t ht).2.2.2 hd,⟨none,0,rfl,⟨Nat.le_refl _,Nat.zero_le _⟩,fun i t ht=>by simp at ht⟩,_,heap_alloc_new _ _,?_⟩
   exact HO1.out.old fun q hq=>(zAA _ _).cell hq
  have HSZ:Hid ((w1.alloc (.cells #[.slice av ts.length cv,.int .i64 0,.int .i64 s.size,.int .i64 0,.slice none 0 0,.slice none 0 0,.int .i64 0,.int .i64 0] 99)).heap.size=w1.heap.size+1):=by show _=_;simp
  have HB2:Hid (Below w1.heap.size w1 (w1.alloc (.cells #[.slice av ts.length cv,.int .i64 0,.int .i64 s.size,.int .i64 0,.slice none 0 0,.slice none 0 0,.int .i64 0,.int .i64 0] 99))):=zAA _ _;obtain⟨W2,hW2⟩:∃W2,w1.alloc (.cells #[.slice av ts.length cv,.int .i64 0,.int .i64 s.size,.int .i64 0,.slice none 0 0,.slice none 0 0,.int .i64 0,.int .i64 0] 99)=W2:=⟨_,rfl⟩;rw[hW2] at HSR HSZ HB2;have HW2:Hid (w1.alloc (.cells #[.slice av ts.length cv,.int .i64 0,.int .i64 s.size,.int .i64 0,.slice none 0 0,.slice none 0 0,.int .i64 0,.int .i64 0] 99)=W2):=hW2;clear hW2;obtain⟨V,hV⟩:∃V,rowR s.size ts [118,97,114] (zCr s.size ts) (ts.length+2) [] ⟨0,0⟩=V:=⟨_,rfl⟩;have HV:Hid (rowR s.size ts [118,97,114] (zCr s.size ts) (ts.length+2) [] ⟨0,0⟩=V):=hV;clear hV;obtain⟨R,hRR⟩:∃R,w1.heap.size=R:=⟨_,rfl⟩;have HRR:Hid (w1.heap.size=R):=hRR;rw[hRR] at HSR HSZ;clear hRR;have HVX:Hid ((⟨#[118,97,114]⟩:ByteArray).toList=[118,97,114]):=by show _=_;simp[go_sem]
  have HVY:Hid ((⟨#[99,111,110]⟩:ByteArray).toList=[99,111,110]):=by show _=_;simp[go_sem]
  go_wp2_with fail
  rw[HW2.out,HRR.out];clear HW2;have hT4:ts.length≤4000:=HTK.out.2;go_loopw [9] (fun o wr=>∃(f:Nat) (acc:List MVar) (p:RP),Hid (rowR s.size ts [118,97,114] (zCr s.size ts) f acc p=V)∧Hid (RSt ⟨R,R,R,s.size,ts,[],.slice none 0 0,.slice none 0 0,0,0⟩ p wr)∧Hid (Fr (XR9 R) W2 wr)∧Hid (wr.ownsRow W2.heap.size 71 3 o acc.length (acc.flatMap varC))∧Hid (∀x∈acc,x.name.size≤maxLen)∧acc.length+f=ts.length+2∧ts.length+2≤f+p.k) (fun o _=>ts.length+3 - zNH o)
  case atStart=>exact⟨ts.length+2,[],⟨0,0⟩,HV,HSR,Fr.refl _ _,World.ownsRow_nil _ _ _ _,fun x hx=>by simp at hx,by simp,by simp⟩
  case round =>
   clear HSR;obtain⟨f,acc,p,HQ,HS,HF,HO,HNM,haf,hfk⟩:=hrel;obtain⟨al,cl,hv⟩:=zAB HO.out;subst hv;have HKT:=HS.out.kT
   dsimp only at HKT
   go_wp2_with fail
   refine (zCK _ p _ HS.out).mono ?_;rintro e w3 ⟨rfl,nd,hw3⟩;have hd3:=zA2 hw3;have HS3:Hid (RSt ⟨R,R,R,s.size,ts,[],.slice none 0 0,.slice none 0 0,0,0⟩ p w3):=HS.out.below hd3;have HF3:Hid (Fr (XR9 R) W2 w3):=HF.out.trans (Fr.below hd3);have HO3:Hid (w3.ownsRow W2.heap.size 71 3 (.slice al acc.length cl) acc.length (acc.flatMap varC)):=zAG HO.out hd3;clear hd3 hw3 HS HF HO
   dsimp only
   cases hq:((txR s.size ts p).toList==[118,97,114])
   ·have HV1:Hid (V=(acc,p)):=HQ.out.symm.trans (zRZ _ _ _ _ _ _ _ hq)
    have k4:w3.cell? ⟨R,4,none⟩=some (.slice none 0 0):=by obtain⟨v,hb,_⟩:=HS3.out.blk;exact blk9 hb 4 _ rfl
    have z4:w3.frozen? ⟨R,4,none⟩=false:=by obtain⟨v,hb,_⟩:=HS3.out.blk;exact frz9 hb 4
    have hS4:=HS3.out.setVv HO3.out;have hF4:Fr (XR9 R) W2 (w3.setCell ⟨R,4,none⟩ (.slice al acc.length cl)):=HF3.out.setX (p:=⟨R,4,none⟩) rfl _;have hO4:(w3.setCell ⟨R,4,none⟩ (.slice al acc.length cl)).ownsRow W2.heap.size 71 3 (.slice al acc.length cl) acc.length (acc.flatMap varC):=by obtain⟨v,hb,_⟩:=HS3.out.blk;exact zAu HO3.out hb (by decide) 4 _
    have hNB:(w3.setCell ⟨R,4,none⟩ (.slice al acc.length cl)).heap.size=w3.heap.size:=by simp
    obtain⟨NB,hNBe⟩:∃NB,w3.heap.size=NB:=⟨_,rfl⟩;obtain⟨names,hnames⟩:∃names,acc.map MVar.name=names:=⟨_,rfl⟩;have HNMS:Hid (acc.map MVar.name=names):=hnames;rw[hNBe] at hNB;rw[hnames,hNBe] at hS4;obtain⟨W3,hW3⟩:∃W3,w3.setCell ⟨R,4,none⟩ (.slice al acc.length cl)=W3:=⟨_,rfl⟩;rw[hW3] at hS4 hF4 hO4 hNB;have HW3:Hid (w3.setCell ⟨R,4,none⟩ (.slice al acc.length cl)=W3):=hW3;have HS4:Hid (RSt ⟨R,NB,R,s.size,ts,names,.slice al acc.length cl,.slice none 0 0,0,0⟩ p W3):=hS4;have HF4:Hid (Fr (XR9 R) W2 W3):=hF4;have HO4:Hid (W3.ownsRow W2.heap.size 71 3 (.slice al acc.length cl) acc.length (acc.flatMap varC)):=hO4;have HNB:Hid (W3.heap.size=NB):=hNB;have HRW:Hid (R<W2.heap.size):=by show _<_;rw[HSZ.out];omega
    have HRN:Hid (R<NB):=by have h1:=hF4.size;have h2:=HRW.out;rw[hNB] at h1;show _<_;omega
    clear HQ HS3 HF3 HO3 hS4 hF4 hO4 hNB hNBe hnames hW3 haf hfk;go_wp2_with fail
    rw[HW3.out];clear HW3 k4 z4 hq;obtain⟨K,hK⟩:∃K,rowR s.size ts [99,111,110] (zBw s.size ts names) (ts.length+2) [] p=K:=⟨_,rfl⟩;have HK:Hid (rowR s.size ts [99,111,110] (zBw s.size ts names) (ts.length+2) [] p=K):=hK;clear hK;have HMR:Hid (zDD s.size ts ⟨0,0⟩=(⟨acc,K.1,(zEW s.size ts names K.2).1.1,(zEW s.size ts names K.2).1.2⟩,if (zEW s.size ts names K.2).2.k<ts.length then zAT 1 (zEW s.size ts names K.2).2 else (zEW s.size ts names K.2).2)):=by
     show _=_;unfold zDD;rw[HV.out,HV1.out]
     dsimp only
     rw[HNMS.out,HK.out]
    clear HV HV1;go_loopw [] (fun wr=>∃(f:Nat) (cons:List MCon) (p:RP) (vc:Value),Hid (rowR s.size ts [99,111,110] (zBw s.size ts names) f cons p=K)∧Hid (RSt ⟨R,NB,R,s.size,ts,names,.slice al acc.length cl,vc,0,0⟩ p wr)∧Hid (Fr (XR9 R) W3 wr)∧Hid (LCr W3.heap.size wr vc cons)∧cons.length+f=ts.length+2∧ts.length+2≤f+p.k) (fun wr=>ts.length+3 - zCp wr ⟨R,5,none⟩)
    case atStart=>exact⟨ts.length+2,[],p,_,HK,HS4,Fr.refl _ _,LCr.none _ _,by simp,by omega⟩
    case round =>
     clear HK HS4;obtain⟨f,cons,p,vc,HQ,HS,HF,HL,haf,hfk⟩:=hrel;obtain⟨ac,cc,hv⟩:=HL.out.form;subst hv;have HKT:=HS.out.kT
     dsimp only at HKT
     have HM0:Hid (zCp wr ⟨R,5,none⟩=cons.length):=by obtain⟨v,hb,_⟩:=HS.out.blk;show _=_;unfold zCp;rw[blk9 hb 5 _ rfl];rfl
     go_wp2_with fail
     refine (zCK _ p _ HS.out).mono ?_;rintro e w4 ⟨rfl,nd,hw4⟩;have hd4:=zA2 hw4;have HS4:Hid (RSt ⟨R,NB,R,s.size,ts,names,.slice al acc.length cl,.slice ac cons.length cc,0,0⟩ p w4):=HS.out.below hd4;have HF5:Hid (Fr (XR9 R) W3 w4):=HF.out.trans (Fr.below hd4);have HL4:Hid (LCr W3.heap.size w4 (.slice ac cons.length cc) cons):=HL.out.fr (X:=fun _=>False) (Fr.below hd4) (fun _ h=>h.elim)
     clear hd4 hw4 HS HF HL
     dsimp only
     cases hq:((txR s.size ts p).toList==[99,111,110])
     ·have HK1:Hid (K=(cons,p)):=HQ.out.symm.trans (zRZ _ _ _ _ _ _ _ hq)
      rw[HK1.out] at HMR
      dsimp only at HMR
      clear HQ HK1 HM0 haf hfk;go_wp2_with fail
      clear hq;refine (zBo _ p zEN zIl _ HS4.out).mono ?_;rintro e w5 ⟨rfl,hst,hfr⟩
      dsimp only at hst hfr
      obtain⟨p1,hp1⟩:∃p1,zAU s.size ts zEN p=p1:=⟨_,rfl⟩;have HP1:Hid (zAU s.size ts zEN p=p1):=hp1;rw[hp1] at hst;have HS5:Hid (RSt ⟨R,NB,R,s.size,ts,names,.slice al acc.length cl,.slice ac cons.length cc,0,0⟩ p1 w5):=hst;have HF6:Hid (Fr (XR9 R) W3 w5):=HF5.out.trans hfr;have HL5:Hid (LCr W3.heap.size w5 (.slice ac cons.length cc) cons):=HL4.out.fr hfr (fun j hj=>by have h1:j=R:=hj;have h2:=HRN.out;rw[h1,HNB.out];exact h2)
      clear hst hfr hp1 HS4 HF5 HL4;have HSA:Hid (SArg (w5.alloc (.cells #[.string ⟨#[97,110,121]⟩,.string ⟨#[108,101,97,115,116]⟩,.string ⟨#[109,111,115,116]⟩] 9)) (.slice (some ⟨w5.heap.size,0,none⟩) 3 3) zCZ):=zSq w5 zCZ _ rfl (by decide)
      have HSB:Hid (RSt ⟨R,NB,R,s.size,ts,names,.slice al acc.length cl,.slice ac cons.length cc,0,0⟩ p1 (w5.alloc (.cells #[.string ⟨#[97,110,121]⟩,.string ⟨#[108,101,97,115,116]⟩,.string ⟨#[109,111,115,116]⟩] 9))):=HS5.out.below (zAA _ _);go_wp2_with fail
      refine (zIw _ p1 zCZ zNS _ _ HSB.out HSA.out).mono ?_;rintro e w6 ⟨rfl,hst,hfr⟩
      dsimp only at hst hfr ⊢
      obtain⟨q2,hq2⟩:∃q2,zAn s.size ts p1 zCZ 0=q2:=⟨_,rfl⟩;rw[hq2] at hst ⊢;obtain⟨g,p2⟩:=q2;have HG:Hid (zEW s.size ts names p=zCc s.size ts names g p2):=by show _=_;unfold zEW;rw[HP1.out,hq2]
      dsimp only at hst ⊢
      have hfb:Fr (XR9 R) w5 w6:=(Fr.below (zAA _ _)).trans hfr;have hL6:LCr W3.heap.size w6 (.slice ac cons.length cc) cons:=HL5.out.fr hfb (fun j hj=>by have h1:j=R:=hj;have h2:=HRN.out;rw[h1,HNB.out];exact h2)
      have k6:w6.cell? ⟨R,6,none⟩=some (.int .i64 0):=by obtain⟨v,hb,_⟩:=hst.blk;exact blk9 hb 6 _ rfl
      have z6:w6.frozen? ⟨R,6,none⟩=false:=by obtain⟨v,hb,_⟩:=hst.blk;exact frz9 hb 6
      have k3:w6.cell? ⟨R,3,none⟩=some (.int .i64 p2.er):=by obtain⟨v,hb,_⟩:=hst.blk;exact blk9 hb 3 _ rfl
      have HSg:Hid (RSt ⟨R,NB,R,s.size,ts,names,.slice al acc.length cl,.slice ac cons.length cc,g,0⟩ p2 (w6.setCell ⟨R,6,none⟩ (.int .i64 g))):=hst.setG g;have HFg:Hid (Fr (XR9 R) W3 (w6.setCell ⟨R,6,none⟩ (.int .i64 g))):=(HF6.out.trans hfb).setX (p:=⟨R,6,none⟩) rfl _;have HLg:Hid (LCr W3.heap.size (w6.setCell ⟨R,6,none⟩ (.int .i64 g)) (.slice ac cons.length cc) cons):=by obtain⟨v,hb,_⟩:=hst.blk;exact hL6.setR hb 6 _
      clear hst hfr hq2 hfb hL6 HS5 HF6 HL5 HSA HSB HP1;obtain⟨k2,er⟩:=p2
      dsimp only at k3
      by_cases hc0:er=0
      rotate_left
      have hcb:(er==0)=false:=by simpa using hc0
      obtain⟨x,hx⟩:∃x:Int,x=0:=⟨0,rfl⟩;have HS8:Hid (RSt ⟨R,NB,R,s.size,ts,names,.slice al acc.length cl,.slice ac cons.length cc,g,x⟩ ⟨k2,er⟩ (w6.setCell ⟨R,6,none⟩ (.int .i64 g))):=by rw[hx];exact HSg.out
      have HG3:Hid (zEW s.size ts names p=((g,x),zAU s.size ts zAk ⟨k2,er⟩)):=by show _=_;rw[HG.out,hx];unfold zCc;rw[if_neg (fun h=>hc0 h.1)]
      have HF8:Hid (Fr (XR9 R) W3 (w6.setCell ⟨R,6,none⟩ (.int .i64 g))):=HFg.out;have HL8:Hid (LCr W3.heap.size (w6.setCell ⟨R,6,none⟩ (.int .i64 g)) (.slice ac cons.length cc) cons):=HLg.out;obtain⟨p3,hp3⟩:∃p3:RP,p3=⟨k2,er⟩:=⟨_,rfl⟩;rw[←hp3] at HS8 HG3;clear hx hp3 HSg HFg HLg HG hc0;go_wp2_with fail
      obtain⟨w8,hw8⟩:∃w8,w6.setCell ⟨R,6,none⟩ (.int .i64 g)=w8:=⟨_,rfl⟩;rw[hw8] at HS8 HF8 HL8 ⊢;clear hw8 k6 z6 k3;clear hcb
      rotate_left
      subst hc0;go_wp2_with fail
      have hgt:(g != 0)=true:=by assumption
      have hg0:¬g=0:=by simpa using hgt
      refine (zFv _ ⟨k2,0⟩ _ HSg.out).mono ?_;rintro e w7 ⟨rfl,hst,hfr⟩
      dsimp only at hst hfr ⊢
      obtain⟨q3,hq3⟩:∃q3,vR s.size ts names ⟨k2,0⟩=q3:=⟨_,rfl⟩;rw[hq3] at hst ⊢;obtain⟨x,p3⟩:=q3;have HG3:Hid (zEW s.size ts names p=((g,x),zAU s.size ts zAk p3)):=by show _=_;rw[HG.out];unfold zCc;rw[if_pos ⟨rfl,hg0⟩,hq3]
      dsimp only at hst ⊢
      have hL7:LCr W3.heap.size w7 (.slice ac cons.length cc) cons:=HLg.out.fr hfr (fun j hj=>by have h1:j=R:=hj;have h2:=HRN.out;rw[h1,HNB.out];exact h2)
      have k7:w7.cell? ⟨R,7,none⟩=some (.int .i64 0):=by obtain⟨v,hb,_⟩:=hst.blk;exact blk9 hb 7 _ rfl
      have z7:w7.frozen? ⟨R,7,none⟩=false:=by obtain⟨v,hb,_⟩:=hst.blk;exact frz9 hb 7
      have HS8:Hid (RSt ⟨R,NB,R,s.size,ts,names,.slice al acc.length cl,.slice ac cons.length cc,g,x⟩ p3 (w7.setCell ⟨R,7,none⟩ (.int .i64 x))):=hst.setX x;have HF8:Hid (Fr (XR9 R) W3 (w7.setCell ⟨R,7,none⟩ (.int .i64 x))):=(HFg.out.trans hfr).setX (p:=⟨R,7,none⟩) rfl _;have HL8:Hid (LCr W3.heap.size (w7.setCell ⟨R,7,none⟩ (.int .i64 x)) (.slice ac cons.length cc) cons):=by obtain⟨v,hb,_⟩:=hst.blk;exact hL7.setR hb 7 _
      clear hst hfr hq3 hL7 HSg HFg HLg HG k6 z6 k3 hgt hg0;go_wp2_with fail
      obtain⟨w8,hw8⟩:∃w8,w7.setCell ⟨R,7,none⟩ (.int .i64 x)=w8:=⟨_,rfl⟩;rw[hw8] at HS8 HF8 HL8 ⊢;clear hw8 k7 z7
      rotate_left
      have hgf:(g != 0)=false:=by assumption
      have hg0:g=0:=by simpa using hgf
      subst hc0;obtain⟨x,hx⟩:∃x:Int,x=0:=⟨0,rfl⟩;have HS8:Hid (RSt ⟨R,NB,R,s.size,ts,names,.slice al acc.length cl,.slice ac cons.length cc,g,x⟩ ⟨k2,0⟩ (w6.setCell ⟨R,6,none⟩ (.int .i64 g))):=by rw[hx];exact HSg.out
      have HG3:Hid (zEW s.size ts names p=((g,x),zAU s.size ts zAk ⟨k2,0⟩)):=by show _=_;rw[HG.out,hx];unfold zCc;rw[if_neg (fun h=>h.2 hg0)]
      have HF8:Hid (Fr (XR9 R) W3 (w6.setCell ⟨R,6,none⟩ (.int .i64 g))):=HFg.out;have HL8:Hid (LCr W3.heap.size (w6.setCell ⟨R,6,none⟩ (.int .i64 g)) (.slice ac cons.length cc) cons):=HLg.out;obtain⟨p3,hp3⟩:∃p3:RP,p3=⟨k2,0⟩:=⟨_,rfl⟩;rw[←hp3] at HS8 HG3;clear hx hp3 HSg HFg HLg HG hg0;obtain⟨w8,hw8⟩:∃w8,w6.setCell ⟨R,6,none⟩ (.int .i64 g)=w8:=⟨_,rfl⟩;rw[hw8] at HS8 HF8 HL8 ⊢;clear hw8 k6 z6 k3;clear hgf
      all_goals
       refine (zBo _ p3 zAk zCS _ HS8.out).mono ?_;rintro e w9 ⟨rfl,hst,hfr⟩
       dsimp only at hst hfr
       obtain⟨p4,hp4⟩:∃p4,zAU s.size ts zAk p3=p4:=⟨_,rfl⟩;rw[hp4] at hst HG3;have HM2:Hid (zDD s.size ts ⟨0,0⟩=(⟨acc,cons,g,x⟩,if p4.k<ts.length then zAT 1 p4 else p4)):=by show _=_;rw[HMR.out,HG3.out]
       have HS9:Hid (RSt ⟨R,NB,R,s.size,ts,names,.slice al acc.length cl,.slice ac cons.length cc,g,x⟩ p4 w9):=hst;have HF9:Hid (Fr (XR9 R) W3 w9):=HF8.out.trans hfr;have HL9:Hid (LCr W3.heap.size w9 (.slice ac cons.length cc) cons):=HL8.out.fr hfr (fun j hj=>by have h1:j=R:=hj;have h2:=HRN.out;rw[h1,HNB.out];exact h2)
       have a1:w9.cell? ⟨R,1,none⟩=some (.int .i64 p4.k):=by obtain⟨v,hb,_⟩:=hst.blk;exact blk9 hb 1 _ rfl
       clear hst hfr hp4 HS8 HF8 HL8 HMR HG3;obtain⟨k4,er4⟩:=p4
       dsimp only at a1 HM2
       by_cases hk:k4<ts.length
       case' pos =>
        have HM3:Hid (zDD s.size ts ⟨0,0⟩=(⟨acc,cons,g,x⟩,zAT 1 ⟨k4,er4⟩)):=by show _=_;rw[HM2.out,if_pos hk]
        go_wp2_with fail
        refine (zBX _ ⟨k4,er4⟩ 1 _ HS9.out).mono ?_;rintro e wa ⟨rfl,hst,hfr⟩
        dsimp only at hst hfr
        obtain⟨p5,hp5⟩:∃p5,zAT 1 ⟨k4,er4⟩=p5:=⟨_,rfl⟩;rw[hp5] at hst HM3;have HSa:Hid (RSt ⟨R,NB,R,s.size,ts,names,.slice al acc.length cl,.slice ac cons.length cc,g,x⟩ p5 wa):=hst;have HFa:Hid (Fr (XR9 R) W3 wa):=HF9.out.trans hfr;have HLa:Hid (LCr W3.heap.size wa (.slice ac cons.length cc) cons):=HL9.out.fr hfr (fun j hj=>by have h1:j=R:=hj;have h2:=HRN.out;rw[h1,HNB.out];exact h2)
        clear hst hfr hp5 HS9 HF9 HL9 HM2 a1 hk
       case' neg =>
        obtain⟨wa,hwa⟩:∃wa,w9=wa:=⟨_,rfl⟩;rw[hwa] at HS9 HF9 HL9 a1 ⊢;obtain⟨p5,hp5⟩:∃p5:RP,⟨k4,er4⟩=p5:=⟨_,rfl⟩;have HM3:Hid (zDD s.size ts ⟨0,0⟩=(⟨acc,cons,g,x⟩,p5)):=by show _=_;rw[HM2.out,if_neg hk,hp5]
        have HSa:Hid (RSt ⟨R,NB,R,s.size,ts,names,.slice al acc.length cl,.slice ac cons.length cc,g,x⟩ p5 wa):=by rw[←hp5];exact HS9.out
        have HFa:Hid (Fr (XR9 R) W3 wa):=HF9.out;have HLa:Hid (LCr W3.heap.size wa (.slice ac cons.length cc) cons):=HL9.out;clear hwa hp5 HS9 HF9 HL9 HM2
       all_goals
        obtain⟨k5,er5⟩:=p5;have e3:wa.cell? ⟨R,3,none⟩=some (.int .i64 er5):=by obtain⟨v,hb,_⟩:=HSa.out.blk;exact blk9 hb 3 _ rfl
        have hlt1:w.heap.size<w1.heap.size:=(Array.getElem?_eq_some_iff.1 HQ1.out).1;have hltR:w.heap.size<R:=by rw[←HRR.out];exact hlt1
        have HWW:Hid (w.heap.size<W2.heap.size):=Nat.lt_of_lt_of_le hlt1 HB2.out.size;have HQa:Hid (wa.heap[w.heap.size]? = some (.cells #[.slice none 0 0,.slice none 0 0,.int .i64 0,.int .i64 0] 25)):=by
         have h2:=HWW.out;have h3:=HF4.out.size;exact (HFa.out.block _ (by omega) (by show ¬_=R;omega)).trans ((HF4.out.block _ h2 (by show ¬_=R;omega)).trans ((HB2.out.block _ hlt1).trans HQ1.out))
        have HBa:Hid (Below w.heap.size w wa):=zS1 (HB1.out.trans (HB2.out.mono HB1.out.size)) (Nat.le_of_lt HWW.out) (HF4.out.trans HFa.out) (Nat.le_of_lt hltR);by_cases h5:er5=0
        ·subst h5
         have HMO:Hid (ModR W2.heap.size wa (.slice al acc.length cl) (.slice ac cons.length cc) ⟨acc,cons,g,x⟩):=⟨zCT HO4.out HFa.out (fun j hj=>by have h1:j=R:=hj;rw[h1];exact HRW.out),HLa.out.mono HF4.out.size,HNM.out⟩
         have q4:wa.cell? ⟨R,4,none⟩=some (.slice al acc.length cl):=by obtain⟨v,hb,_⟩:=HSa.out.blk;exact blk9 hb 4 _ rfl
         have q5:wa.cell? ⟨R,5,none⟩=some (.slice ac cons.length cc):=by obtain⟨v,hb,_⟩:=HSa.out.blk;exact blk9 hb 5 _ rfl
         have q6:wa.cell? ⟨R,6,none⟩=some (.int .i64 g):=by obtain⟨v,hb,_⟩:=HSa.out.blk;exact blk9 hb 6 _ rfl
         have q7:wa.cell? ⟨R,7,none⟩=some (.int .i64 x):=by obtain⟨v,hb,_⟩:=HSa.out.blk;exact blk9 hb 7 _ rfl
         go_wp2_with fail
         refine (show Calls Tryz.prog 10 #[modV (.slice al acc.length cl) (.slice ac cons.length cc) ⟨acc,cons,g,x⟩] _ _ from zI3 ⟨acc,cons,g,x⟩ _ _ _ HMO.out.marg).mono ?_
         obtain⟨ce,hce⟩:∃ce,zCq ⟨acc,cons,g,x⟩=ce:=⟨_,rfl⟩;have HCE:Hid (zCq ⟨acc,cons,g,x⟩=ce):=hce;rw[hce];rintro e wb ⟨rfl,hb⟩;have HMb:Hid (ModR W2.heap.size wb (.slice al acc.length cl) (.slice ac cons.length cc) ⟨acc,cons,g,x⟩):=HMO.out.below hb;have HBb:Hid (Below w.heap.size w wb):=HBa.out.trans (hb.mono HBa.out.size);have HQb:Hid (wb.heap[w.heap.size]? = some (.cells #[.slice none 0 0,.slice none 0 0,.int .i64 0,.int .i64 0] 25)):=(hb.block _ (Array.getElem?_eq_some_iff.1 HQa.out).1).trans HQa.out;have HSb:Hid (RSt ⟨R,NB,R,s.size,ts,names,.slice al acc.length cl,.slice ac cons.length cc,g,x⟩ ⟨k5,0⟩ wb):=HSa.out.below hb;clear hce hb HMO HSa HFa HLa HQa HBa q4 q5 q6 q7 e3;have n4:wb.cell? ⟨R,4,none⟩=some (.slice al acc.length cl):=by obtain⟨v,hb,_⟩:=HSb.out.blk;exact blk9 hb 4 _ rfl
         have n5:wb.cell? ⟨R,5,none⟩=some (.slice ac cons.length cc):=by obtain⟨v,hb,_⟩:=HSb.out.blk;exact blk9 hb 5 _ rfl
         have n6:wb.cell? ⟨R,6,none⟩=some (.int .i64 g):=by obtain⟨v,hb,_⟩:=HSb.out.blk;exact blk9 hb 6 _ rfl
         have n7:wb.cell? ⟨R,7,none⟩=some (.int .i64 x):=by obtain⟨v,hb,_⟩:=HSb.out.blk;exact blk9 hb 7 _ rfl
         have r0:=blk9 HQb.out 0 _ rfl;have r1:=blk9 HQb.out 1 _ rfl;have r2:=blk9 HQb.out 2 _ rfl;have r3:=blk9 HQb.out 3 _ rfl;have z0:=frz9 HQb.out 0;have z1:=frz9 HQb.out 1;have z2:=frz9 HQb.out 2;have z3:=frz9 HQb.out 3;by_cases hc:ce=0
         ·subst hc
          have HX:Hid (m0=⟨acc,cons,g,x⟩∧x0=0∧e0=0):=by
           have h:=HA.out;rw[zRX HSC.out HM3.out rfl HCE.out] at h;cases h
           exact⟨rfl,rfl,rfl⟩
          go_wp2
          refine bodyPost_ret (by simp[results,Tryz.results22,go_sem, *];try rfl) rfl ?_
          obtain⟨j0,j1,j2⟩:=HX.out;subst j0 j1 j2;exact⟨_,_,rfl,zN9 HMb.out HWW.out _ _ _ _,ret4 HBb.out _ _ _ _⟩
         ·have hcb:(ce != 0)=true:=by simpa using hc
          have HX:Hid (m0=zEG∧x0=0∧e0=ce):=by
           have h:=HA.out;rw[zMH HSC.out HM3.out rfl (by rw[HCE.out];exact hc),HCE.out] at h
           cases h
           exact⟨rfl,rfl,rfl⟩
          clear hc;go_wp2
          refine bodyPost_ret (by simp[results,Tryz.results22,go_sem, *];try rfl) rfl ?_
          obtain⟨j0,j1,j2⟩:=HX.out;subst j0 j1 j2;exact⟨_,_,rfl,zEC _ _,ret4 HBb.out _ _ _ _⟩
        ·have h5b:(er5 != 0)=true:=by simpa using h5
         have HX:Hid (m0=zEG∧x0=(zAI s.size (ts.drop k5)).place∧e0=er5):=by
          have h:=HA.out;rw[zNQ HSC.out HM3.out h5] at h;cases h
          exact⟨rfl,rfl,rfl⟩
         have hnv:=zRB _ ⟨k5,er5⟩ wa.drew (HSa.out.below (Below.refl _ _).drew)
         dsimp only at hnv
         obtain⟨pl,hpl⟩:∃pl,(zAI s.size (ts.drop k5)).place=pl:=⟨_,rfl⟩;rw[hpl] at hnv HX;clear h5 hpl;have r0:=blk9 HQa.out 0 _ rfl;have r1:=blk9 HQa.out 1 _ rfl;have r2:=blk9 HQa.out 2 _ rfl;have r3:=blk9 HQa.out 3 _ rfl;have z0:=frz9 HQa.out 0;have z1:=frz9 HQa.out 1;have z2:=frz9 HQa.out 2;have z3:=frz9 HQa.out 3;go_wp2_with fail
         go_region_law
          (first
            | (rw[if_pos (by rfl)];go_simp;go_at_call 65;refine hnv.mono ?_;rintro e wb ⟨rfl,nd,hwb⟩;subst hwb;dsimp only))
         all_goals
          go_wp2
          refine bodyPost_ret (by simp[results,Tryz.results22,go_sem, *];try rfl) rfl ?_
          obtain⟨j0,j1,j2⟩:=HX.out;subst j0 j1 j2;exact⟨_,_,rfl,zEC _ _,ret4 (below_drewN HBa.out _) _ _ _ _⟩
     ·obtain⟨g,hg⟩:∃g,f=g+1:=⟨f - 1,by omega⟩
      subst hg;have HQ3:Hid (rowR s.size ts [99,111,110] (zBw s.size ts names) g (cons++[(zBw s.size ts names p).1]) (zBw s.size ts names p).2=K):=(zTE _ _ _ _ _ _ _ hq).symm.trans HQ.out;have HKK:Hid (p.k+1≤(zBw s.size ts names p).2.k):=zRa _ _ _ _ hq;obtain⟨cr,hcr⟩:∃cr,zBw s.size ts names p=cr:=⟨_,rfl⟩;have HCR:Hid (zBw s.size ts names p=cr):=hcr;rw[hcr] at HQ3 HKK;clear HQ hcr;go_wp2_with fail
      refine (zBo _ p conW zIk _ HS4.out).mono ?_;rintro e w5 ⟨rfl,hst,hfr⟩
      dsimp only at hst hfr
      obtain⟨p1,hp1⟩:∃p1,zAU s.size ts conW p=p1:=⟨_,rfl⟩;have HP1:Hid (zAU s.size ts conW p=p1):=hp1;rw[hp1] at hst;have HS5:Hid (RSt ⟨R,NB,R,s.size,ts,names,.slice al acc.length cl,.slice ac cons.length cc,0,0⟩ p1 w5):=hst;have HF6:Hid (Fr (XR9 R) W3 w5):=HF5.out.trans hfr;have HL5:Hid (LCr W3.heap.size w5 (.slice ac cons.length cc) cons):=HL4.out.fr hfr (fun j hj=>by have h1:j=R:=hj;have h2:=HRN.out;rw[h1,HNB.out];exact h2)
      clear hst hfr hp1 HS4 HF5 HL4 hq;go_wp2_with fail
      refine (zRP _ p1 _ HS5.out).mono ?_;rintro e w6 ⟨vv,vc,vr,vl,rfl,hcr,hst,hfr⟩
      dsimp only at hst hfr hcr ⊢
      obtain⟨q2,hq2⟩:∃q2,conR s.size ts names p1=q2:=⟨_,rfl⟩;have HP2:Hid (conR s.size ts names p1=q2):=hq2;rw[hq2] at hst hcr ⊢;obtain⟨x,p2⟩:=q2
      dsimp only at hst hcr ⊢
      have hW35:W3.heap.size≤w5.heap.size:=HF6.out.size;have HCX:Hid (ConR W3.heap.size w6 vv vc vr vl x):=hcr.mono hW35;have HS6:Hid (RSt ⟨R,NB,R,s.size,ts,names,.slice al acc.length cl,.slice ac cons.length cc,0,0⟩ p2 w6):=hst;have HF7:Hid (Fr (XR9 R) W3 w6):=HF6.out.trans hfr;have HL6:Hid (LCr W3.heap.size w6 (.slice ac cons.length cc) cons):=HL5.out.fr hfr (fun j hj=>by have h1:j=R:=hj;have h2:=HRN.out;rw[h1,HNB.out];exact h2)
      obtain⟨x1,y1,hx1⟩:=zAB hcr.1;obtain⟨x2,y2,hx2⟩:=zAB hcr.2.1;obtain⟨x3,y3,hx3⟩:=hcr.2.2.1.form;obtain⟨x4,y4,hx4⟩:=zAB hcr.2.2.2;subst hx1 hx2 hx3 hx4;clear hst hfr hcr hq2 HS5 HF6 HL5 hW35;have HSB:Hid (RSt ⟨R,NB,R,s.size,ts,names,.slice al acc.length cl,.slice ac cons.length cc,0,0⟩ p2 (w6.alloc (.cells #[.int .i64 x.kind,.slice x1 x.vars.length y1,.slice x2 x.consts.length y2,.int .i64 x.n,.slice x3 x.rows.length y3,.slice x4 x.lits.length y4] 73))):=HS6.out.below (zAA _ _);unfold conV;go_wp2_with fail
      refine (zBo _ p2 zAk zCS _ HSB.out).mono ?_;rintro e w7 ⟨rfl,hst,hfr⟩
      dsimp only at hst hfr
      obtain⟨p3,hp3⟩:∃p3,zAU s.size ts zAk p2=p3:=⟨_,rfl⟩;rw[hp3] at hst;have HEQ:Hid (cr=(x,p3)):=by
       show _=_;rw[←HCR.out];unfold zBw;rw[HP1.out,HP2.out]
       dsimp only
       rw[hp3]
      have hxR:∀j,XR9 R j→j<W3.heap.size:=fun j hj=>by have h1:j=R:=hj;have h2:=HRN.out;rw[h1,HNB.out];exact h2
      have hfb:Fr (XR9 R) w6 w7:=(Fr.below (zAA _ _)).trans hfr;have HCX7:Hid (ConR W3.heap.size w7 (.slice x1 x.vars.length y1) (.slice x2 x.consts.length y2) (.slice x3 x.rows.length y3) (.slice x4 x.lits.length y4) x):=HCX.out.fr hfb hxR;have HS7:Hid (RSt ⟨R,NB,R,s.size,ts,names,.slice al acc.length cl,.slice ac cons.length cc,0,0⟩ p3 w7):=hst;have HF8:Hid (Fr (XR9 R) W3 w7):=HF7.out.trans hfb;have hL7:LCr W3.heap.size w7 (.slice ac cons.length cc) cons:=HL6.out.fr hfb hxR;obtain⟨bx,hbx⟩:∃bx,w6.heap.size=bx:=⟨_,rfl⟩;have HBX:Hid (w6.heap.size=bx):=hbx;have HBO:Hid (w7.heap[bx]? = some (.cells #[.int .i64 x.kind,.slice x1 x.vars.length y1,.slice x2 x.consts.length y2,.int .i64 x.n,.slice x3 x.rows.length y3,.slice x4 x.lits.length y4] 73)):=by
       rw[←hbx];exact (hfr.block _ (by simp) (by have h1:=HS6.out.lt;show ¬_=_;dsimp only at h1;omega)).trans (heap_alloc_new _ _)
      clear hst hfr hp3 hxR hfb HSB HCX HS6 HF7 HL6 HCR HP1 HP2 hbx;rw[HEQ.out] at HQ3 HKK;clear HEQ
      dsimp only at HQ3 HKK
      obtain⟨cells,h1,h2⟩:=hL7;have k5:w7.cell? ⟨R,5,none⟩=some (.slice ac cons.length cc):=by obtain⟨v,hb,_⟩:=HS7.out.blk;exact blk9 hb 5 _ rfl
      have b0:=blk9 HBO.out 0 _ rfl;have b1:=blk9 HBO.out 1 _ rfl;have b2:=blk9 HBO.out 2 _ rfl;have b3:=blk9 HBO.out 3 _ rfl;have b4:=blk9 HBO.out 4 _ rfl;have b5:=blk9 HBO.out 5 _ rfl;have hR7:R<w7.heap.size:=HS7.out.lt;have hox:=h1.alloc (.cells #[.int .i64 x.kind,.slice x1 x.vars.length y1,.slice x2 x.consts.length y2,.int .i64 x.n,.slice x3 x.rows.length y3,.slice x4 x.lits.length y4] 73);have hsz:W3.heap.size≤w7.heap.size:=HF8.out.size;rw[HBX.out];have HH2:Hid (∀(i:Nat) (c:MCon),cons[i]? = some c→∃vv vc vr vl,(∀j,j<6→cells[i * 6+j]? = (conC vv vc vr vl c)[j]?)∧ConR W3.heap.size w7 vv vc vr vl c):=h2;have HH1:Hid (w7.ownsRow W3.heap.size 73 6 (.slice ac cons.length cc) cons.length cells):=h1;clear h1 h2 HBX;go_wp2_with (at_builtin;refine wpList_append_own _ rfl _ _ 23 rfl W3.heap.size 73 iC _ 6 112 Tryz.underCons5 hiC hzC0 hzC1 hzC2 rfl (by decide) _ _ _ rfl hox ⟨w7.heap.size,0,none⟩ 1 1 (conC (.slice x1 x.vars.length y1) (.slice x2 x.consts.length y2) (.slice x3 x.rows.length y3) (.slice x4 x.lits.length y4) x) rfl rfl ?c1 ?c2 ?c3 ?c4 ?c5 ?_)
      case c1=>exact zLp w7 _ _ _ _ x
      case c2=>exact zJ2 HCX7.out
      case c3=>unfold maxLen;omega
      case c4=>omega
      case c5=>simp;omega
      intro v9 w9 hown9 hg9 _;have hrow:∀k,(Value.slice ac cons.length cc).ownBlock=some k→W3.heap.size≤k:=fun k hk=>(HH1.out.lt k hk).1
      have hS9:RSt ⟨R,NB,R,s.size,ts,names,.slice al acc.length cl,.slice ac cons.length cc,0,0⟩ p3 w9:=(HS7.out.below (zAA _ _)).grown hg9 (fun k hk=>by have h1:=hrow k hk;have h2:=HNB.out;have h3:=HRN.out;exact⟨by show k≠R;omega,by show R≤k;omega,by show NB≤k;omega⟩)
      have hF9:Fr (XR9 R) W3 w9:=(HF8.out.alloc _).grown hg9 (fun k hk=>Or.inr (hrow k hk))
      have hL9:LCr W3.heap.size w9 v9 (cons++[x]):=LCr.push HH1.out HH2.out HCX7.out hown9 hg9;have k5':w9.cell? ⟨R,5,none⟩=some (.slice ac cons.length cc):=by obtain⟨v,hb,_⟩:=hS9.blk;exact blk9 hb 5 _ rfl
      have z5':w9.frozen? ⟨R,5,none⟩=false:=by obtain⟨v,hb,_⟩:=hS9.blk;exact frz9 hb 5
      have HS9:Hid (RSt ⟨R,NB,R,s.size,ts,names,.slice al acc.length cl,v9,0,0⟩ p3 (w9.setCell ⟨R,5,none⟩ v9)):=hS9.setVc v9;have HF9:Hid (Fr (XR9 R) W3 (w9.setCell ⟨R,5,none⟩ v9)):=hF9.setX (p:=⟨R,5,none⟩) rfl _;have HL9:Hid (LCr W3.heap.size (w9.setCell ⟨R,5,none⟩ v9) v9 (cons++[x])):=by obtain⟨v,hb,_⟩:=hS9.blk;exact hL9.setR hb 5 v9
      have HLL:Hid ((cons++[x]).length=cons.length+1):=by show _=_;simp
      obtain⟨c9,hc9⟩:∃c9,cons++[x]=c9:=⟨_,rfl⟩;rw[hc9] at HQ3 HL9 HLL;obtain⟨a9,d9,hv9⟩:=HL9.out.form;subst hv9;clear hown9 hg9 hrow hox hc9 b0 b1 b2 b3 b4 b5 HS7 HF8 hS9 hF9 hL9 HH1 HH2 HCX7 HBO k5;have HM9:Hid (zCp (w9.setCell ⟨R,5,none⟩ (.slice a9 c9.length d9)) ⟨R,5,none⟩=c9.length):=by obtain⟨v,hb,_⟩:=HS9.out.blk;show _=_;unfold zCp;rw[blk9 hb 5 _ rfl];rfl
      go_wp2
      go_roundw
      case rel=>exact⟨g,c9,p3,_,HQ3,HS9,HF9,HL9,by have:=HLL.out;omega,by have:=HKK.out;omega⟩
      case measure=>have h1:=HLL.out;have h2:=HM9.out;have h3:=HM0.out;simp only[h2,h3];omega
   ·obtain⟨g,hg⟩:∃g,f=g+1:=⟨f - 1,by omega⟩
    subst hg;have HQ3:Hid (rowR s.size ts [118,97,114] (zCr s.size ts) g (acc++[(zCr s.size ts p).1]) (zCr s.size ts p).2=V):=(zTE _ _ _ _ _ _ _ hq).symm.trans HQ.out;have HKK:Hid (p.k+1≤(zCr s.size ts p).2.k):=zS0 _ _ _ hq;obtain⟨vr,hvr⟩:∃vr,zCr s.size ts p=vr:=⟨_,rfl⟩;have HVR:Hid (zCr s.size ts p=vr):=hvr;rw[hvr] at HQ3 HKK;clear HQ hvr;go_wp2_with fail
    refine (zBo _ p varW zIi _ HS3.out).mono ?_;rintro e w4 ⟨rfl,hst,hfr⟩
    dsimp only at hst hfr
    obtain⟨p1,hp1⟩:∃p1,zAU s.size ts varW p=p1:=⟨_,rfl⟩;have HP1:Hid (zAU s.size ts varW p=p1):=hp1;rw[hp1] at hst;have HS4:Hid (RSt ⟨R,R,R,s.size,ts,[],.slice none 0 0,.slice none 0 0,0,0⟩ p1 w4):=hst;have HF4:Hid (Fr (XR9 R) W2 w4):=HF3.out.trans hfr;have HO4:Hid (w4.ownsRow W2.heap.size 71 3 (.slice al acc.length cl) acc.length (acc.flatMap varC)):=zCT HO3.out hfr (fun j hj=>by have h1:j=R:=hj;rw[h1,HSZ.out];omega)
    clear hst hfr hp1 HS3 HF3 HO3 hq;go_wp2_with fail
    refine (zCK _ p1 _ HS4.out).mono ?_;rintro e w5 ⟨rfl,nd,hw5⟩;have hd5:=zA2 hw5
    dsimp only
    have HNS:Hid ((txR s.size ts p1).size≤maxLen):=by have:=zTv s.size ts HTK.out.1 p1;unfold maxLen;show _≤_;omega
    have HIN:Hid (zAb (txR s.size ts p1)=true→p1.k+1≤ts.length∧p1.er=0):=zTw _ _ _;obtain⟨nm,hnm⟩:∃nm,txR s.size ts p1=nm:=⟨_,rfl⟩;have HNMM:Hid (txR s.size ts p1=nm):=hnm;rw[hnm] at HNS HIN ⊢;have HVB:Hid (VB ⟨R,R,R,s.size,ts,[],.slice none 0 0,.slice none 0 0,0,0⟩ W2 (w5.alloc (.cells #[.string nm,.int .i64 0,.int .i64 0] 71)) p1 w5.heap.size nm 0 0 (.slice al acc.length cl) acc):=by
     have hs2:=HSZ.out;have hf5:Fr (XR9 R) W2 w5:=HF4.out.trans (Fr.below hd5);have ho5:=zAG HO4.out hd5;refine⟨(HS4.out.below hd5).below (zAA _ _),hf5.alloc _,heap_alloc_new _ _,hf5.size,by show R<_;omega,by show R≤_;omega,by show R≤_;omega,ho5.alloc _,?_⟩
     intro e;have:=(ho5.lt _ e).2;omega
    clear hd5 hw5 hnm HS4 HF4 HO4;go_wp2_with fail
    refine (zHA nm HNS.out _).mono ?_;rintro e w6 ⟨rfl,hb6⟩;have HVB6:=HVB.out.below hb6;obtain⟨bv,hbv⟩:∃bv,w5.heap.size=bv:=⟨_,rfl⟩;rw[hbv] at HVB6;have HBV:Hid (w5.heap.size=bv):=hbv;have HVB6:Hid (VB ⟨R,R,R,s.size,ts,[],.slice none 0 0,.slice none 0 0,0,0⟩ W2 w6 p1 bv nm 0 0 (.slice al acc.length cl) acc):=HVB6;clear hb6 hbv HVB;rw[HBV.out];clear HBV;cases hn:zAb nm
    rotate_left
    have hk1:=(HIN.out hn).1;have a0:w6.cell? ⟨R,1,none⟩=some (.int .i64 p1.k):=by obtain⟨v,hb,_⟩:=HVB6.out.st.blk;exact blk9 hb 1 _ rfl
    have a1:w6.frozen? ⟨R,1,none⟩=false:=by obtain⟨v,hb,_⟩:=HVB6.out.st.blk;exact frz9 hb 1
    have HVB7:Hid (VB ⟨R,R,R,s.size,ts,[],.slice none 0 0,.slice none 0 0,0,0⟩ W2 (w6.setCell ⟨R,1,none⟩ (.int .i64 ((p1.k:Int)+1))) (zCm p1) bv nm 0 0 (.slice al acc.length cl) acc):=by
     have h:=HVB6.out.step (by exact hk1)
     rw[show ((p1.k+1:Nat):Int)=(p1.k:Int)+1 by omega] at h
     exact h
    have HP2:Hid ((zDd s.size ts p1).2=zCm p1):=by show (if zAb (txR s.size ts p1) then zCm p1 else zAT 1 p1)=_;rw[HNMM.out,hn,if_pos rfl]
    clear HVB6 hn HIN;go_wp2_with fail
    obtain⟨w7,hw7⟩:∃w7,w6.setCell ⟨R,1,none⟩ (.int .i64 ((p1.k:Int)+1))=w7:=⟨_,rfl⟩;rw[hw7] at HVB7 ⊢;obtain⟨p2,hp2⟩:∃p2,zCm p1=p2:=⟨_,rfl⟩;rw[hp2] at HVB7 HP2;clear hw7 hp2 a0 a1 hk1
    rotate_left
    have HP2:Hid ((zDd s.size ts p1).2=zAT 1 p1):=by show (if zAb (txR s.size ts p1) then zCm p1 else zAT 1 p1)=_;rw[HNMM.out,hn,if_neg (by simp)]
    clear HIN;go_wp2_with fail
    clear hn;refine (zBX _ p1 1 _ HVB6.out.st).mono ?_;rintro e w7 ⟨rfl,hst,hfr⟩
    dsimp only at hst hfr
    obtain⟨p2,hp2⟩:∃p2,zAT 1 p1=p2:=⟨_,rfl⟩;rw[hp2] at hst HP2;have HVB7:Hid (VB ⟨R,R,R,s.size,ts,[],.slice none 0 0,.slice none 0 0,0,0⟩ W2 w7 p2 bv nm 0 0 (.slice al acc.length cl) acc):=HVB6.out.call hfr hst;clear hst hfr hp2 HVB6;go_wp2_with fail
    all_goals
     refine (zBo _ p2 colW zIj _ HVB7.out.st).mono ?_;rintro e w8 ⟨rfl,hst,hfr⟩
     dsimp only at hst hfr
     obtain⟨p3,hp3⟩:∃p3,zAU s.size ts colW p2=p3:=⟨_,rfl⟩;rw[hp3] at hst;have HP3:Hid (zAU s.size ts colW p2=p3):=hp3;have HVB8:Hid (VB ⟨R,R,R,s.size,ts,[],.slice none 0 0,.slice none 0 0,0,0⟩ W2 w8 p3 bv nm 0 0 (.slice al acc.length cl) acc):=HVB7.out.call hfr hst;clear hst hfr hp3 HVB7;go_wp2_with fail
     refine (zIx _ p3 _ HVB8.out.st).mono ?_;rintro e w9 ⟨rfl,hst,hfr⟩
     dsimp only at hst hfr ⊢
     obtain⟨q4,hq4⟩:∃q4,kR s.size ts p3=q4:=⟨_,rfl⟩;rw[hq4] at hst ⊢;have HP4:Hid (kR s.size ts p3=q4):=hq4;obtain⟨lo,p4⟩:=q4
     dsimp only at hst ⊢
     have HVB9:Hid (VB ⟨R,R,R,s.size,ts,[],.slice none 0 0,.slice none 0 0,0,0⟩ W2 w9 p4 bv nm 0 0 (.slice al acc.length cl) acc):=HVB8.out.call hfr hst;clear hst hfr hq4 HVB8;have b1:w9.cell? ⟨bv,1,none⟩=some (.int .i64 0):=blk9 HVB9.out.box 1 _ rfl;have b2:=frz9 HVB9.out.box 1;have HVBa:Hid (VB ⟨R,R,R,s.size,ts,[],.slice none 0 0,.slice none 0 0,0,0⟩ W2 (w9.setCell ⟨bv,1,none⟩ (.int .i64 lo)) p4 bv nm lo 0 (.slice al acc.length cl) acc):=HVB9.out.setLo lo;clear HVB9;go_wp2_with fail
     obtain⟨wa,hwa⟩:∃wa,w9.setCell ⟨bv,1,none⟩ (.int .i64 lo)=wa:=⟨_,rfl⟩;rw[hwa] at HVBa ⊢;clear hwa b1 b2;refine (zBo _ p4 zDs zG6 _ HVBa.out.st).mono ?_;rintro e wb ⟨rfl,hst,hfr⟩
     dsimp only at hst hfr
     obtain⟨p5,hp5⟩:∃p5,zAU s.size ts zDs p4=p5:=⟨_,rfl⟩;rw[hp5] at hst;have HP5:Hid (zAU s.size ts zDs p4=p5):=hp5;have HVBb:Hid (VB ⟨R,R,R,s.size,ts,[],.slice none 0 0,.slice none 0 0,0,0⟩ W2 wb p5 bv nm lo 0 (.slice al acc.length cl) acc):=HVBa.out.call hfr hst;clear hst hfr hp5 HVBa;go_wp2_with fail
     refine (zIx _ p5 _ HVBb.out.st).mono ?_;rintro e wc ⟨rfl,hst,hfr⟩
     dsimp only at hst hfr ⊢
     obtain⟨q6,hq6⟩:∃q6,kR s.size ts p5=q6:=⟨_,rfl⟩;rw[hq6] at hst ⊢;have HP6:Hid (kR s.size ts p5=q6):=hq6;obtain⟨hi,p6⟩:=q6
     dsimp only at hst ⊢
     have HVBc:Hid (VB ⟨R,R,R,s.size,ts,[],.slice none 0 0,.slice none 0 0,0,0⟩ W2 wc p6 bv nm lo 0 (.slice al acc.length cl) acc):=HVBb.out.call hfr hst;clear hst hfr hq6 HVBb;have b1:wc.cell? ⟨bv,2,none⟩=some (.int .i64 0):=blk9 HVBc.out.box 2 _ rfl;have b2:=frz9 HVBc.out.box 2;have HVBd:Hid (VB ⟨R,R,R,s.size,ts,[],.slice none 0 0,.slice none 0 0,0,0⟩ W2 (wc.setCell ⟨bv,2,none⟩ (.int .i64 hi)) p6 bv nm lo hi (.slice al acc.length cl) acc):=HVBc.out.setHi hi;clear HVBc;go_wp2_with fail
     obtain⟨wd,hwd⟩:∃wd,wc.setCell ⟨bv,2,none⟩ (.int .i64 hi)=wd:=⟨_,rfl⟩;rw[hwd] at HVBd ⊢;clear hwd b1 b2;refine (zBo _ p6 zAk zCS _ HVBd.out.st).mono ?_;rintro e we ⟨rfl,hst,hfr⟩
     dsimp only at hst hfr
     obtain⟨p7,hp7⟩:∃p7,zAU s.size ts zAk p6=p7:=⟨_,rfl⟩;rw[hp7] at hst;have HVBe:Hid (VB ⟨R,R,R,s.size,ts,[],.slice none 0 0,.slice none 0 0,0,0⟩ W2 we p7 bv nm lo hi (.slice al acc.length cl) acc):=HVBd.out.call hfr hst;have HEQ:Hid (vr=(⟨nm,lo,hi⟩,p7)):=by
      show _=_;rw[←HVR.out];unfold zCr
      dsimp only
      rw[HP1.out,HP2.out,HP3.out,HP4.out]
      dsimp only
      rw[HP5.out,HP6.out]
      dsimp only
      rw[hp7];unfold zDd;rw[HNMM.out]
     clear hst hfr hp7 HVBd HP1 HP2 HP3 HP4 HP5 HP6 HVR HNMM;rw[HEQ.out] at HQ3 HKK;clear HEQ
     dsimp only at HQ3 HKK
     have b0:we.cell? ⟨bv,0,none⟩=some (.string nm):=blk9 HVBe.out.box 0 _ rfl;have b1:we.cell? ⟨bv,1,none⟩=some (.int .i64 lo):=blk9 HVBe.out.box 1 _ rfl;have b2:we.cell? ⟨bv,2,none⟩=some (.int .i64 hi):=blk9 HVBe.out.box 2 _ rfl;have hox:=HVBe.out.own.alloc (.cells #[.string nm,.int .i64 lo,.int .i64 hi] 71);have hsz:W2.heap.size≤we.heap.size:=HVBe.out.fr.size;go_wp2_with (at_builtin;refine wpList_append_own _ rfl _ _ 22 rfl W2.heap.size 71 iV (.agg #[.string ⟨#[]⟩,.int .i64 0,.int .i64 0]) 3 32 Tryz.underVars5 hiV hzV0 hzV1 hzV2 rfl (by decide) _ _ _ rfl hox ⟨we.heap.size,0,none⟩ 1 1 (varC ⟨nm,lo,hi⟩) rfl rfl ?c1 ?c2 ?c3 ?c4 ?c5 ?_)
     case c1=>exact zLo we ⟨nm,lo,hi⟩
     case c2=>exact zJ1 _
     case c3=>unfold maxLen;omega
     case c4=>omega
     case c5=>simp;omega
     intro v9 w9 hown9 hg9 _;have hrow:∀k,(Value.slice al acc.length cl).ownBlock=some k→W2.heap.size≤k:=fun k hk=>(HVBe.out.own.lt k hk).1
     have HS9:Hid (RSt ⟨R,R,R,s.size,ts,[],.slice none 0 0,.slice none 0 0,0,0⟩ p7 w9):=(HVBe.out.st.below (zAA _ _)).grown hg9 (fun k hk=>by have h1:=hrow k hk;have h2:=HSZ.out;exact⟨by show k≠R;omega,by show R≤k;omega,by show R≤k;omega⟩)
     have HF9:Hid (Fr (XR9 R) W2 w9):=(HVBe.out.fr.alloc _).grown hg9 (fun k hk=>Or.inr (hrow k hk))
     have HO9:Hid (w9.ownsRow W2.heap.size 71 3 v9 (acc++[(⟨nm,lo,hi⟩:MVar)]).length ((acc++[(⟨nm,lo,hi⟩:MVar)]).flatMap varC)):=by
      show w9.ownsRow _ _ _ _ _ _;rw[List.length_append,zLm];exact hown9
     have HNM9:Hid (∀x∈acc++[(⟨nm,lo,hi⟩:MVar)],x.name.size≤maxLen):=fun x hx=>by
      rcases List.mem_append.1 hx with hx | hx
      ·exact HNM.out x hx
      ·rw[List.mem_singleton.1 hx];exact HNS.out
     have HL9:Hid ((acc++[(⟨nm,lo,hi⟩:MVar)]).length=acc.length+1):=by show _=_;simp
     have HK9:Hid (p.k+1≤p7.k):=HKK.out;obtain⟨acc2,hacc2⟩:∃acc2,acc++[(⟨nm,lo,hi⟩:MVar)]=acc2:=⟨_,rfl⟩;rw[hacc2] at HQ3 HO9 HNM9 HL9;obtain⟨a9,c9,hv9⟩:=zAB HO9.out;subst hv9;clear hown9 hg9 hrow hox hacc2 b0 b1 b2 HVBe;go_wp2
     go_roundw
     case rel=>exact⟨g,acc2,p7,HQ3,HS9,HF9,HO9,HNM9,by have:=HL9.out;omega,by have:=HK9.out;omega⟩
     case measure=>have h1:=HL9.out;simp[zNH];omega
 ·have he1b:(e1 != 0)=true:=by simpa using he1
  have HX:Hid (m0=zEG∧x0=(at1:Int)∧e0=e1):=by
   have h:=HA.out;rw[zNR HSC.out he1] at h;cases h
   exact⟨rfl,rfl,rfl⟩
  have r0:=blk9 HQ1.out 0 _ rfl;have r1:=blk9 HQ1.out 1 _ rfl;have r2:=blk9 HQ1.out 2 _ rfl;have r3:=blk9 HQ1.out 3 _ rfl;have z0:=frz9 HQ1.out 0;have z1:=frz9 HQ1.out 1;have z2:=frz9 HQ1.out 2;have z3:=frz9 HQ1.out 3;clear he1;go_wp2
  refine bodyPost_ret (by simp[results,Tryz.results22,go_sem, *];try rfl) rfl ?_
  obtain⟨k0,k1,k2⟩:=HX.out;subst k0 k1 k2;exact⟨_,_,rfl,zEC _ _,ret4 HB1.out _ _ _ _⟩
end Go.Proofs.YtdjbejlbmaiocagGreatDoor
