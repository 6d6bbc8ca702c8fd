/- What the proof leans on, part 33. -/
import Derived.Test.YtndcpnlaadikoaaGreatDoorPartBf
import Derived.Test.YtndcpnlaadikoaaGreatDoorPartAw
set_option maxRecDepth 100000
set_option maxHeartbeats 6400000
open Go.Proofs.Tryz
namespace Go.Proofs.YtndcpnlaadikoaaGreatDoor
open Go.RowKit
theorem js (s:Sto) (NH:∀r∈s,∀x∈r,-50<=x/\x<=50):∀(scope vals:List Int) (n:Nat),(∀x∈vals,-50<=x/\x<=50)->∀x∈(chN s scope vals n).1,-50<=x/\x<=50
 | [],vals,n,h=>h
 | v :: r,vals,n,h=>by
   unfold chN;refine js s NH r _ _ λx hx=>?_
   rcases List.mem_or_eq_of_mem_set hx with hx | rfl
   ·exact h x hx
   rw[ZO (l:=List.getD s v.toNat [])];cases hg:(List.getD s v.toNat [])[n % (List.getD s v.toNat []).length]? with
   | none=>exact⟨by decide,by decide⟩
   | some z =>
     have hz:=Zz hg;rw[ZO] at hz;cases hg2:s[v.toNat]? with
     | none=>rw[hg2] at hz;cases hz
     | some q=>rw[hg2] at hz;exact NH q (Zz hg2) z hz
theorem zXC (s:Sto) (NH:∀r∈s,∀x∈r,-50<=x/\x<=50) (scope:List Int) (n:Nat):∀x∈uN s scope n,-50<=x/\x<=50 :=
 js s NH _ _ _ λx hx=>by rw[It hx];exact⟨by decide,by decide⟩
theorem jr (s:Sto) (scope:List Int) (n:Nat):(uN s scope n).length=s.length:=by
 unfold uN;rw[jA];simp[XM]
def ZOut (s:Sto) (scope vals:List Int):Prop:=vals.length=s.length/\∀w:Nat,(∀v∈scope,v.toNat≠w)->vals[w]? = (XM s.length)[w]?
theorem ZOut.zero (s:Sto) (scope:List Int):ZOut s scope (XM s.length):=⟨by simp[XM],λ_ _=>rfl⟩
theorem ZOut.next {s:Sto} {scope vals:List Int} (h:ZOut s scope vals) (n:Nat):(chN s scope vals n).1=uN s scope n:=jy s scope vals _ n (by rw[h.1];simp[XM]) h.2
theorem ZOut.uN (s:Sto) (scope:List Int) (n:Nat):ZOut s scope (uN s scope n):=⟨jr s scope n,λw hw=>jz s scope _ n w hw⟩
theorem zTB (n:Nat):(XM n).map (Value.int .i64)=List.replicate n (.int .i64 0):=by simp[XM]
theorem jq {w:World} {base n:Nat} {v:Value} {r:List Int} (h:w.ownsRow base 3 1 v n (r.map (Value.int .i64))) (hn:r.length=n):IArg w v r:=by subst hn;exact JA h
theorem zTC (w:World) (l:MLit):LOwn w.heap.size (w.alloc (.cells #[.int .i64 l.var,.int .i64 l.op,.int .i64 l.n] 76)) (.slice (some ⟨w.heap.size,0,none⟩) 1 1) [l] :=
 ⟨rfl,.inr ⟨w.heap.size,1,_,rfl,Z2 _,heap_alloc_new _ _,Z2 _,by decide,rfl,rfl⟩⟩
theorem yAj:prog.underlying 27=some (.slice 76):=by kernel_rfl
theorem zOl (m:Mod) (hm:Zs m=0) (j:Nat) (k:MCon) (hk:m.cons[j]? = some k) (s:Sto) (Zr:s.length=m.vars.length) (ZS:∀r∈s,r.length<=6) (NH:∀r∈s,∀x∈r,-50<=x/\x<=50)
 (vs cs v:Value) (w:World) (Y8:MArg w vs cs m) (hv:RArg w v s) :
 Calls prog 94 #[modV vs cs m,.int .i64 (j:Int),v] w λe w'=>∃x,e=.returned x/\RArg w' x (TL k s)/\Bw w w':=by
 have h6:s.length<=6:=by rw[Zr];exact (RH m hm).2.1
 have H6M:Hid (m.vars.length<=6):=(RH m hm).2.1;have OW:=(ZN.1 hk).1;have Ra:=hI Zr;have S5:Hid (conE s.length k=0):=by rw[Zr];exact Ik m hm j k hk
 have yu:Hid ((∀v∈YC k,0<=v/\v<(s.length:Int))/\(k.kind=10->k.lits≠[])):=by rw[Zr];exact E6 m hm j k hk
 have WM:=hI ZS;have P6:=hI NH;have HV:=hI hv;have Y3:=hI Y8;obtain⟨⟨a,cap,rfl,_,_⟩,⟨a0,c0,rfl,⟨sO,B4⟩,QO⟩⟩:=Y8;obtain⟨a1,c1,rfl,⟨Ql,Y0⟩,_⟩:=hv;unfold maxLen at B4 Y0;obtain⟨b0,o0,vv,vc,vr,vl,rfl,WB,e0,e1,e2,e3,e4,e5,QV⟩:=QO j k hk;have UD:=hI QV;obtain⟨⟨a2,c2,rfl,_,_⟩,⟨a3,c3,rfl,_,_⟩,⟨a4,c4,rfl,_,_⟩,⟨a5,c5,rfl,_,_⟩⟩:=QV;obtain⟨i0,hi,Ze,Y_,Zb⟩:=info_parts Hl;unfold modV;clear QO hm Zr ZS NH hk;go_enter func94,ntmps94
 go_wp2_with fail
 have Zt:Hid (Bw w (w.alloc (.cells #[.slice a m.vars.length cap,.slice (some ⟨b0,o0,none⟩) m.cons.length c0,.int .i64 m.goal,.int .i64 m.var] 25))):=Z4 _ _;have HN:Hid ((w.alloc (.cells #[.slice a m.vars.length cap,.slice (some ⟨b0,o0,none⟩) m.cons.length c0,.int .i64 m.goal,.int .i64 m.var] 25)).heap[w.heap.size]? = some (.cells #[.slice a m.vars.length cap,.slice (some ⟨b0,o0,none⟩) m.cons.length c0,.int .i64 m.goal,.int .i64 m.var] 25)):=heap_alloc_new _ _;obtain⟨W,hW⟩:∃W,w.alloc (.cells #[.slice a m.vars.length cap,.slice (some ⟨b0,o0,none⟩) m.cons.length c0,.int .i64 m.goal,.int .i64 m.var] 25)=W:=⟨_,rfl⟩;rw[hW] at Zt HN ⊢;clear hW
 replace HV:Hid (RArg W (.slice a1 s.length c1) s):=RArg.below Zt.o HV.o
 replace Y3:Hid (MArg W (.slice a m.vars.length cap) (.slice (some ⟨b0,o0,none⟩) m.cons.length c0) m):=MArg.below Zt.o Y3.o
 replace UD:Hid (KArg W (.slice a2 k.vars.length c2) (.slice a3 k.consts.length c3) (.slice a4 k.rows.length c4) (.slice a5 k.lits.length c5) k):=KArg.below Zt.o UD.o
 have f0:=(Zt.o.cell (p:=⟨b0,o0+j * 6,none⟩) WB).trans e0;have f1:=(Zt.o.cell (p:=⟨b0,o0+j * 6+1,none⟩) WB).trans e1;have f2:=(Zt.o.cell (p:=⟨b0,o0+j * 6+2,none⟩) WB).trans e2;have f3:=(Zt.o.cell (p:=⟨b0,o0+j * 6+3,none⟩) WB).trans e3;have f4:=(Zt.o.cell (p:=⟨b0,o0+j * 6+4,none⟩) WB).trans e4;have f5:=(Zt.o.cell (p:=⟨b0,o0+j * 6+5,none⟩) WB).trans e5;have lb0:=ZQ WB Zt.o.size;have l0:=(Z8.1 HN.o).1;have q0:W.cell? ⟨w.heap.size,0,none⟩=some (.slice a m.vars.length cap):=Z_ HN.o 0 _ rfl;have q1:W.cell? ⟨w.heap.size,1,none⟩=some (.slice (some ⟨b0,o0,none⟩) m.cons.length c0):=Z_ HN.o 1 _ rfl;have q2:W.cell? ⟨w.heap.size,2,none⟩=some (.int .i64 m.goal):=Z_ HN.o 2 _ rfl;have q3:W.cell? ⟨w.heap.size,3,none⟩=some (.int .i64 m.var):=Z_ HN.o 3 _ rfl;clear e0 e1 e2 e3 e4 e5 WB;refine (Kf s _ _ HV.o).mono ?_;rintro e W ⟨rfl,rfl⟩;cases hf:zAI s
 ·go_wp2_with fail
  have ZU:Hid (Bw W (W.alloc (.cells #[.int .i64 k.kind,.slice a2 k.vars.length c2,.slice a3 k.consts.length c3,.int .i64 k.n,.slice a4 k.rows.length c4,.slice a5 k.lits.length c5] 69))):=Z4 _ _;have TG:Hid ((W.alloc (.cells #[.int .i64 k.kind,.slice a2 k.vars.length c2,.slice a3 k.consts.length c3,.int .i64 k.n,.slice a4 k.rows.length c4,.slice a5 k.lits.length c5] 69)).heap[W.heap.size]? = some (.cells #[.int .i64 k.kind,.slice a2 k.vars.length c2,.slice a3 k.consts.length c3,.int .i64 k.n,.slice a4 k.rows.length c4,.slice a5 k.lits.length c5] 69)):=heap_alloc_new _ _;obtain⟨W1,Pt⟩:∃W1,W.alloc (.cells #[.int .i64 k.kind,.slice a2 k.vars.length c2,.slice a3 k.consts.length c3,.int .i64 k.n,.slice a4 k.rows.length c4,.slice a5 k.lits.length c5] 69)=W1:=⟨_,rfl⟩;rw[Pt] at ZU TG ⊢;clear Pt f0 f1 f2 f3 f4 f5 q0 q1 q2 q3 lb0 l0;obtain⟨C,hC⟩:∃C,W.heap.size=C:=⟨_,rfl⟩;have Ws:Hid (Bw w W1):=Zt.o.trans (ZU.o.mono Zt.o.size);have Ww:Hid (RArg W1 (.slice a1 s.length c1) s):=RArg.below ZU.o HV.o;have QI:Hid (MArg W1 (.slice a m.vars.length cap) (.slice (some ⟨b0,o0,none⟩) m.cons.length c0) m):=MArg.below ZU.o Y3.o;have se:Hid (KArg W1 (.slice a2 k.vars.length c2) (.slice a3 k.consts.length c3) (.slice a4 k.rows.length c4) (.slice a5 k.lits.length c5) k):=KArg.below ZU.o UD.o;rw[hC] at TG ⊢;clear hC ZU Zt HV Y3 UD HN;refine (zQ3 m k _ _ _ _ _ _ W1 H6M.o QI.o se.o).mono ?_;rintro e B ⟨xv,rfl,hx,BI⟩;have Th:=hI (Ws.o.trans (BI.mono Ws.o.size));have SB:Hid (RArg B (.slice a1 s.length c1) s):=RArg.below BI Ww.o;have jp:Hid (KArg B (.slice a2 k.vars.length c2) (.slice a3 k.consts.length c3) (.slice a4 k.rows.length c4) (.slice a5 k.lits.length c5) k):=KArg.below BI se.o;have Lr:Hid (B.heap[C]? = some (.cells #[.int .i64 k.kind,.slice a2 k.vars.length c2,.slice a3 k.consts.length c3,.int .i64 k.n,.slice a4 k.rows.length c4,.slice a5 k.lits.length c5] 69)):=(BI.block _ (Z8.1 TG.o).1).trans TG.o;have TY:Hid (IArg B xv (TC s.length k)):=by rw[Ra.o];exact hx
  clear hx BI Ws Ww QI se TG;obtain⟨S,hS⟩:∃S,TC s.length k=S:=⟨_,rfl⟩;have HS:=hI hS;rw[hS] at TY;clear hS;obtain⟨ax,cx,MS,⟨Kk,SF⟩,_⟩:=TY.o;subst MS;unfold maxLen at SF;obtain⟨wm,XW,Z9,Ta⟩:=pq s.length (by omega) B
  obtain⟨V,hV⟩:∃V,B.heap.size=V:=⟨_,rfl⟩;have HVS:Hid (V=B.heap.size):=hV.symm;have HC:Hid (∀Y,Bw B Y->C<Y.heap.size/\Y.cell? ⟨C,0,none⟩=some (.int .i64 k.kind)/\Y.cell? ⟨C,1,none⟩=some (.slice a2 k.vars.length c2)/\Y.cell? ⟨C,2,none⟩=some (.slice a3 k.consts.length c3)/\Y.cell? ⟨C,3,none⟩=some (.int .i64 k.n)/\Y.cell? ⟨C,4,none⟩=some (.slice a4 k.rows.length c4)/\Y.cell? ⟨C,5,none⟩=some (.slice a5 k.lits.length c5)):=λY hY=>by
   have hN:=(hY.block _ (Z8.1 Lr.o).1).trans Lr.o;exact⟨(Z8.1 hN).1,Z_ hN 0 _ rfl,Z_ hN 1 _ rfl,Z_ hN 2 _ rfl,Z_ hN 3 _ rfl,Z_ hN 4 _ rfl,Z_ hN 5 _ rfl⟩
  have BH:Hid (wm.ownsRow B.heap.size 3 1 (.slice (some ⟨V,0,none⟩) s.length s.length) s.length ((XM s.length).map (Value.int .i64))):=by
   show wm.ownsRow _ _ _ _ _ _;rw[zTB,<-hV];exact Z9
  have Vq:=hI Ta;have ZW:=hI (Th.o.trans (Ta.mono Th.o.size));rw[hV] at XW;clear Z9 Ta hV Lr;have HF:=hI hf;clear hf;have Mt:Hid (∀v,v∈S↔v∈YC k):=λv=>by rw[<-HS.o];exact sf s.length k yu.o.1 v
  have HZB:Hid (∀x∈XM s.length,-50<=x/\x<=50):=λx hx=>by rw[It hx];exact⟨by decide,by decide⟩
  by_cases BG:S.length=0
  ·obtain⟨lC,g0,g1,g2,g3,g4,g5⟩:=HC.o _ Vq.o
   have t0:((S.length:Int)==0)=true:=by rw[BG];rfl
   obtain⟨R,hR⟩:∃R,YL k (XM s.length)=R:=⟨_,rfl⟩;have jo:Hid (TL k s=if R then s else S3 s.length):=by
    show _=_;rw[<-hR];refine zOk k s HF.o ?_;cases hq:YC k with
    | nil=>rfl
    | cons x r =>
      have hx:x∈S:=(Mt.o x).2 (by rw[hq];exact Zk ..)
      rw[Xf BG] at hx;cases hx
   clear BG;go_wp2_with fail
   refine (so k (XM s.length) _ _ _ _ _ wm (KArg.below Vq.o jp.o) (jq BH.o (by simp[XM])) (by rw[show (XM s.length).length=s.length by simp[XM]];exact S5.o) HZB.o).mono ?_
   rintro e w4 ⟨rfl,Zd⟩;have Yp:=hI (ZW.o.trans (Zd.mono ZW.o.size));have IJ:Hid (RArg w4 (.slice a1 s.length c1) s):=RArg.below Zd (RArg.below Vq.o SB.o);clear Zd g0 g1 g2 g3 g4 g5 lC XW;rw[hR];clear hR;cases R
   ·go_wp2_with fail
    refine (ze s.length (by omega) w4).mono ?_
    rintro e w5 ⟨x5,rfl,LU,Yd⟩;go_wp2
    go_ret
    exact⟨_,rfl,by rw[jo.o];exact LU,Yp.o.trans (Yd.mono Yp.o.size)⟩
   go_wp2
   go_ret
   exact⟨_,rfl,by rw[jo.o];exact IJ.o,Yp.o⟩
  have t0:((S.length:Int)==0)=false:=by simp only[beq_eq_false_iff_ne,ne_eq];omega
  have Oq:Hid ((YC k).length≠0):=by
   intro h;apply BG;cases hq:S with
   | nil=>rfl
   | cons x r =>
     have hx:x∈YC k:=(Mt.o x).1 (by rw[hq];exact Zk ..)
     rw[Xf h] at hx;cases hx
  have zD:S.length<=6:=by
   rw[<-HS.o];unfold TC;exact ZT (Tz _ _) (by rw[sm];exact h6)
  have Vx:Hid (∀r∈s,r≠[]):=λr hr he=>by
   have h:=HF.o;unfold zAI at h;rw[Ty] at h;have:=h r hr;rw[he] at this;simp at this
  have Pi:Hid (∀x∈S,0<=x/\x<(s.length:Int)):=λx hx=>yu.o.1 x ((Mt.o x).1 hx)
  have jn:Hid (∀v∈S,s.getD v.toNat []≠[]):=λv hv=>by
   obtain⟨h0,h1⟩:=Pi.o v hv;have h2:v.toNat<s.length:=by omega
   rw[ZO,ZA h2,RQ];exact Vx.o _ (Qs h2)
  obtain⟨P,hP⟩:∃P,R3 s S=P:=⟨_,rfl⟩;have HP:=hI hP;have hP0:0<P:=by rw[<-hP];exact jx s S jn.o
  have hP6:P<=46656:=by
   rw[<-hP];exact ZT (ju s WM.o S) (ZT (SS (by omega) zD) (by decide))
  clear hP BG;go_wp2_with fail
  clear XW;go_loopw [10,11,12,13] (λo i _ _ wr=>∃(n:Nat) (met:Cla) (vals:List Int),n<=P/\i=.int .i64 n/\met.length<=6 * n/\LOwn B.heap.size wr o met/\Hid (Ls k s S n met/\ZOut s S vals)/\wr.ownsRow B.heap.size 3 1 (.slice (some ⟨V,0,none⟩) s.length s.length) s.length (vals.map (Value.int .i64))/\Bw B wr) (λ_ i _ _ _=>P - (intOf i).toNat)
  case atStart=>exact⟨0,[],XM s.length,by omega,rfl,by simp,ZH _ _ _ _,⟨zQ6 _ _ _,ZOut.zero _ _⟩,BH.o,Vq.o⟩
  obtain⟨n,met,vals,hn,rfl,Uo,YM,jm,NS,Z3⟩:=hrel;have WP:=hI YM;have BF:=hI jm;have Wp:=hI NS;have Xu:=hI Z3;obtain⟨am,cm,rfl⟩:=ZJ YM;have hml6:met.length<=280000:=by omega
  clear YM jm NS Z3;go_wp2_with fail
  refine (zQ4 s S vals n V s.length _ _ B wr SB.o TY.o Xu.o Wp.o Pi.o Vx.o (by omega)).mono ?_
  rintro e w3 ⟨rfl,hr3,Yj⟩;have sd:Hid (LOwn B.heap.size w3 (.slice am met.length cm) met):=zWR WP.o Wp.o Yj;have Ys:Hid (w3.ownsRow B.heap.size 3 1 (.slice (some ⟨V,0,none⟩) s.length s.length) s.length ((uN s S n).map (Value.int .i64))):=by
   show w3.ownsRow _ _ _ _ _ _;rw[<-BF.o.2.next n];exact hr3
  have ZM:Hid (Bw B w3):=⟨Yj.os.trans Xu.o.os,Yj.tape.trans Xu.o.tape,Yj.output.trans Xu.o.output,ZT Xu.o.size Yj.size,λq hq=>(Yj.block q (ZQ hq Xu.o.size) (by have:=HVS.o;omega)).trans (Xu.o.block q hq)⟩
  have Qm:Hid ((chN s S vals n).2=n / P):=by show _=_;rw[jB,HP.o]
  clear hr3 Yj;by_cases Z7:n<P
  ·have ht:((chN s S vals n).2==0)=true:=by rw[Qm.o,Nat.div_eq_of_lt Z7];rfl
   rw[ht];clear ht Qm;obtain⟨lC,g0,g1,g2,g3,g4,g5⟩:=HC.o _ ZM.o;obtain⟨U,hU⟩:∃U,uN s S n=U:=⟨_,rfl⟩;have HU:=hI hU;have jl:U.length=s.length:=by rw[<-hU];exact jr s S n
   have EX:=hI jl;have Df:Hid (∀x∈U,-50<=x/\x<=50):=λx hx=>by rw[<-hU] at hx;exact zXC s P6.o S n x hx
   rw[hU] at Ys;clear hU jl;obtain⟨R,hR⟩:∃R,YL k U=R:=⟨_,rfl⟩;have HR:Hid (YL k (uN s S n)=R):=by rw[HU.o];exact hR
   go_wp2_with fail
   refine (so k U _ _ _ _ _ w3 (KArg.below ZM.o jp.o) (jq Ys.o EX.o) (by rw[EX.o];exact S5.o) Df.o).mono ?_
   rintro e w4 ⟨rfl,Zd⟩;have Yp:=hI (ZM.o.trans (Zd.mono ZM.o.size));have Op:Hid (LOwn B.heap.size w4 (.slice am met.length cm) met):=YZ sd.o Zd;have Wq:Hid (w4.ownsRow B.heap.size 3 1 (.slice (some ⟨V,0,none⟩) s.length s.length) s.length (U.map (Value.int .i64))):=YZ Ys.o Zd;clear Zd g0 g1 g2 g3 g4 g5 lC;rw[hR];clear hR;cases R
   ·go_wp2
    go_roundw
    case rel=>exact⟨n+1,met,U,by omega,by go_num,by omega,Op.o,⟨zQ7 BF.o.1 HR.o,HU.o▸ZOut.uN s S n⟩,Wq.o,Yp.o⟩
    case measure=>simp[intOf];omega
   go_wp2_with fail
   go_loopw [10,12,13] (λo i _ wr=>∃(q:Nat) (mt:Cla),q<=S.length/\i=.int .i64 q/\mt.length<=met.length+q/\LOwn B.heap.size wr o mt/\Hid (MetI k s S n q mt)/\wr.ownsRow B.heap.size 3 1 (.slice (some ⟨V,0,none⟩) s.length s.length) s.length (U.map (Value.int .i64))/\Bw B wr) (λ_ i _ _=>S.length - (intOf i).toNat)
   case atStart=>exact⟨0,met,by omega,rfl,by omega,Op.o,zQ8 BF.o.1,Wq.o,Yp.o⟩
   obtain⟨q,mt,hq,rfl,td,YM,zu,NS,Z3⟩:=hrel;have WP:=hI YM;have sb:=hI zu;have Wp:=hI NS;have Xu:=hI Z3;obtain⟨an,cn,rfl⟩:=ZJ YM;by_cases Kh:q<S.length
   ·obtain⟨x,hx⟩:∃x,S[q]? = some x:=⟨S[q],by simp[Kh]⟩
    have HX:=hI hx;obtain⟨TK,Rf⟩:=Pi.o x (Zz hx);obtain⟨y,rfl⟩:∃y:Nat,x=(y:Int):=⟨x.toNat,by omega⟩
    have IL:y<s.length:=by omega
    have jk:y<U.length:=by have:=EX.o;omega
    obtain⟨z,hz⟩:∃z,U[y]? = some z:=⟨U[y],by simp[jk]⟩
    have HZ:Hid (Zx (uN s S n) (y:Int)=z):=by rw[HU.o];exact Ia U y z hz
    obtain⟨_,_,WT,_,Yq⟩:=IArg.below Z3 TY.o;cases WT
    obtain⟨b2,o2,ZY,Sp,e2⟩:=Yq q _ hx;subst ZY;have EO:wr.cell? ⟨V,y,none⟩=some (.int .i64 z):=by rw[NS.cellAt y (by omega),YN,hz];rfl
    have lV:V<wr.heap.size:=(NS.lt V rfl).2;clear Yq hx hz YM zu NS Z3 TK Rf jk;go_wp2_with fail
    go_cut [13] (λp wx=>∃L,p=.pointer (some ⟨L,0,none⟩)/\Hid (wx.heap[L]? = some (.cells #[.int .i64 (y:Int),.int .i64 0,.int .i64 z] 76))/\Hid (Bw wr wx))
    case first =>
     have OL:Hid ((wr.alloc (.cells #[.int .i64 (y:Int),.int .i64 0,.int .i64 z] 76)).heap[wr.heap.size]? = some (.cells #[.int .i64 (y:Int),.int .i64 0,.int .i64 z] 76)):=heap_alloc_new _ _;have vB:Hid (Bw wr (wr.alloc (.cells #[.int .i64 (y:Int),.int .i64 0,.int .i64 z] 76)).drew):=(Z4 _ _).drew;go_region_law (fail)
     all_goals (go_wp2_with fail;go_meet)
     all_goals exact⟨_,rfl,OL.o,vB.o⟩
    obtain⟨L,rfl,hL,yt⟩:=hcut;have lL:=(Z8.1 hL.o).1;have p0:wc.cell? ⟨L,0,none⟩=some (.int .i64 (y:Int)):=Z_ hL.o 0 _ rfl;have p1:wc.cell? ⟨L,1,none⟩=some (.int .i64 0):=Z_ hL.o 1 _ rfl;have p2:wc.cell? ⟨L,2,none⟩=some (.int .i64 z):=Z_ hL.o 2 _ rfl;have LI:Hid (LOwn B.heap.size wc (.slice an mt.length cn) mt):=YZ WP.o yt.o;have QT:Hid (wc.ownsRow B.heap.size 3 1 (.slice (some ⟨V,0,none⟩) s.length s.length) s.length (U.map (Value.int .i64))):=YZ Wp.o yt.o;have Xx:Hid (Bw B wc):=Xu.o.trans (yt.o.mono Xu.o.size);have OD:=hI hL;clear hL yt EO lV e2 Sp;go_wp2_with fail
    refine (jC mt ⟨(y:Int),0,z⟩ _ wc (LOwn.arg LI.o)).mono ?_;rintro e w6 ⟨rfl,Yz⟩;have BD:=(Yz.block _ lL).trans OD.o;have Kz:Hid (LOwn B.heap.size w6 (.slice an mt.length cn) mt):=YZ LI.o Yz;have U4:Hid (w6.ownsRow B.heap.size 3 1 (.slice (some ⟨V,0,none⟩) s.length s.length) s.length (U.map (Value.int .i64))):=YZ QT.o Yz;have Sd:=hI (Xx.o.trans (Yz.mono Xx.o.size));have lL6:=(Z8.1 BD).1;have r0:w6.cell? ⟨L,0,none⟩=some (.int .i64 (y:Int)):=Z_ BD 0 _ rfl;have r1:w6.cell? ⟨L,1,none⟩=some (.int .i64 0):=Z_ BD 1 _ rfl;have r2:w6.cell? ⟨L,2,none⟩=some (.int .i64 z):=Z_ BD 2 _ rfl;clear p0 p1 p2 lL BD Yz;cases hT:hasT mt ⟨(y:Int),0,z⟩
    ·have F3:Hid (MetI k s S n (q+1) (mt++[⟨(y:Int),0,z⟩])):=by
      have h:=zU1 sb.o (y:Int) HX.o;rw[HZ.o] at h;exact h
     have Yo:=Kz.o;have hB6s:=Sd.o.size;clear hT;go_wp2_with (at_builtin;refine zGk 27 yAj rfl _ _ rfl B.heap.size _ mt rfl (Kz.o.alloc _) _ [⟨(y:Int),0,z⟩] rfl ?c1 ?c2 ?c3 ?_)
     case c1=>exact LOwn.arg (zTC w6 ⟨(y:Int),0,z⟩)
     case c2=>simp;omega
     case c3=>simp;omega
     intro v7 w7 WH Z1;have HL7:=hI WH;have OT:(w6.alloc (.cells #[.int .i64 (y:Int),.int .i64 0,.int .i64 z] 76)).ownsRow B.heap.size 76 3 (.slice an mt.length cn) mt.length (U_ mt):=World.ownsRow.alloc Kz.o _;have Lu:Hid (w7.ownsRow B.heap.size 3 1 (.slice (some ⟨V,0,none⟩) s.length s.length) s.length (U.map (Value.int .i64))):=P_ (World.ownsRow.alloc U4.o _) Z1 OT (by decide)
     have G7:Hid (Bw B w7):=(Sd.o.alloc Sd.o.size _).grown Z1 (by simp;omega) (λg h=>(OT.lt g h).1)
     clear WH Z1 OT r0 r1 r2 lL6 Yo;go_wp2
     go_roundw
     case rel=>exact⟨q+1,_,by omega,by go_num,by simp;omega,HL7.o,F3,Lu.o,G7.o⟩
     case measure=>simp[intOf];omega
    have F3:Hid (MetI k s S n (q+1) mt):=zU0 sb.o (y:Int) HX.o (by rw[HZ.o];exact hT)
    clear hT;go_wp2
    go_roundw
    case rel=>exact⟨q+1,mt,by omega,by go_num,by omega,Kz.o,F3,U4.o,Sd.o⟩
    case measure=>simp[intOf];omega
   have II:Hid (Ls k s S (n+1) mt):=by
    have hqe:q=S.length:=by omega
    have h:=sb.o;rw[hqe] at h;exact zU2 h HR.o
   clear YM zu NS Z3;go_wp2
   go_roundw
   case rel=>exact⟨n+1,mt,U,by omega,by go_num,by omega,WP.o,⟨II.o,HU.o▸ZOut.uN s S n⟩,Wp.o,Xu.o⟩
   case measure=>simp[intOf];omega
  have r_:n=P:=by omega
  have ht:((chN s S vals n).2==0)=false:=by rw[Qm.o,r_,Nat.div_self hP0];rfl
  rw[ht];clear ht Qm;have II:Hid (Ls k s (TC s.length k) (R3 s (TC s.length k)) met):=by
   have h:=BF.o.1;rw[r_] at h;rw[HS.o,HP.o];exact h
  clear r_;have EM:Hid ((TL k s).length=s.length):=Vs _ _;have VK:Hid (∀(i:Nat) (r:List Int),s[i]? = some r->(TL k s)[i]? = some (if hasB S (i:Int) then r.filter (λz=>hasT met ⟨(i:Int),0,z⟩) else r)):=λi r hr=>by
   have h:=zQ9 k s HF.o yu.o.1 yu.o.2 Oq.o met II.o (by rw[HS.o];exact jn.o) i r hr
   rw[HS.o] at h;exact h
  have zj:Hid (RArg w3 (.slice a1 s.length c1) s):=RArg.below ZM.o SB.o;have XF:Hid (IArg w3 (.slice ax S.length cx) S):=IArg.below ZM.o TY.o;have ji:Hid (LArg w3 (.slice am met.length cm) met):=LOwn.arg sd.o;have PZ:Hid (Bw w w3):=Th.o.trans (ZM.o.mono Th.o.size);obtain⟨E,hE⟩:∃E,TL k s=E:=⟨_,rfl⟩;have HE:=hI hE;rw[hE] at EM VK;clear hE;obtain⟨Z,hZ⟩:∃Z:World,Z=w3:=⟨_,rfl⟩;rw[<-hZ] at zj XF ji PZ ⊢;clear hZ II sd Ys ZM WP Wp Xu BF;go_wp2_with fail
  go_loopw [14,15,16,17] (λo i _ _ wr=>∃(d:Nat) (cells:List Value),d<=s.length/\i=.int .i64 d/\UJ Z o cells E d wr) (λ_ i _ _ _=>s.length - (intOf i).toNat)
  case atStart=>exact⟨0,[],by omega,rfl,UJ.nil _ _⟩
  obtain⟨d,cells,hd,rfl,Pj⟩:=hrel;have OE:=hI Pj;obtain⟨an,cn,rfl⟩:=ZJ Pj.1;have X2:=hI Pj.2.2;clear Pj;by_cases T3:d<s.length
  ·obtain⟨r,hr⟩:∃r,s[d]? = some r:=⟨s[d],by simp[T3]⟩
   have I1:Hid (E[d]? = some (if hasB S (d:Int) then r.filter (λz=>hasT met ⟨(d:Int),0,z⟩) else r)):=VK.o d r hr
   have N_:r.length<=6:=WM.o r (Zz hr);obtain⟨_,_,Pu,_,Uz⟩:=zj.o;cases Pu
   obtain⟨ob,oo,xv,Gz,Q_,ocl,Vn⟩:=Uz d r hr;subst Gz;have NX:=hI Vn;obtain⟨ay,cy,MS,jh,Pn⟩:=Vn;subst MS;unfold maxLen at jh;obtain⟨hmy1,hmy2⟩:=jh;have NU:Hid (∀Y,Bw wr Y->ob<Y.heap.size/\Y.cell? ⟨ob,oo+d,none⟩=some (.slice ay r.length cy)):=λY hY =>
    ⟨ZQ (ZQ Q_ X2.o.size) hY.size,(hY.cell (p:=⟨ob,oo+d,none⟩) (ZQ Q_ X2.o.size)).trans ((X2.o.cell (p:=⟨ob,oo+d,none⟩) Q_).trans ocl)⟩
   have Kj:Hid (∀(i:Nat) (z:Int),r[i]? = some z->∃b off,ay=some ⟨b,off,none⟩/\b<wr.heap.size/\∀Y,Bw wr Y->b<Y.heap.size/\Y.cell? ⟨b,off+i,none⟩=some (.int .i64 z)):=λi z hz=>by
    obtain⟨b,off,h1,h2,h3⟩:=Pn i z hz;have h4:=ZQ h2 X2.o.size;exact⟨b,off,h1,h4,λY hY=>⟨ZQ h4 hY.size,(hY.cell (p:=⟨b,off+i,none⟩) h4).trans ((X2.o.cell (p:=⟨b,off+i,none⟩) h2).trans h3)⟩⟩
   have HMT:Hid (∀Y,Bw wr Y->LArg Y (.slice am met.length cm) met):=λY hY=>LArg.below (X2.o.trans (hY.mono X2.o.size)) ji.o
   clear Uz Pn ocl Q_ hr;go_wp2_with fail
   refine (lA S _ (d:Int) wr (IArg.below X2.o XF.o)).mono ?_;rintro e wo ⟨rfl,rfl⟩;cases hh:hasB S (d:Int)
   ·have WO:Hid (E[d]? = some r):=by show _=_;rw[I1.o,hh];rfl
    obtain⟨ol,oc⟩:=NU.o wo (Z6 _ _);have Xr:=OE.o.1;have Y':=OE.o.2.2.size;clear hh I1;go_wp2_with (at_builtin;refine Et rfl _ _ rfl Z.heap.size _ d cells rfl (Xr.alloc _) wo.heap.size (.slice ay r.length cy) rfl rfl ?c1 ?c2 ?c3 ?_)
    case c1=>exact Zu _ _ _ 0 (by simp)
    case c2=>omega
    case c3=>simp;omega
    intro v3 w3 ZX Z1;have WG:Hid (UJ Z v3 (cells++[.slice ay r.length cy]) E (d+1) w3):=(OE.o.below (Z4 _ _)).push WO.o (Or.inl NX.o) ZX Z1;clear ZX Z1 Xr;go_wp2
    go_roundw
    case rel=>exact⟨d+1,_,by omega,by go_num,WG.o⟩
    case measure=>simp[intOf];omega
   have WO:Hid (E[d]? = some (r.filter (λz=>hasT met ⟨(d:Int),0,z⟩))):=by show _=_;rw[I1.o,hh];rfl
   clear hh I1;obtain⟨F,hF⟩:∃F:Int->Bool,F=λz=>hasT met ⟨(d:Int),0,z⟩:=⟨_,rfl⟩
   have OU:Hid (∀z,hasT met ⟨(d:Int),0,z⟩=F z):=λz=>by rw[hF]
   rw[<-hF] at WO;clear hF;go_wp2_with fail
   go_loopw [16,17] (λo i wr=>∃q:Nat,q<=r.length/\i=.int .i64 q/\wr.ownsRow wo.heap.size 3 1 o ((r.take q).filter F).length (((r.take q).filter F).map (Value.int .i64))/\Bw wo wr) (λ_ i _=>r.length - (intOf i).toNat)
   case atStart=>exact⟨0,by omega,rfl,ZH _ _ _ _,Z6 _ _⟩
   obtain⟨q,hq,rfl,Z9,WK⟩:=hrel;have NT:=hI WK;obtain⟨ol,oc⟩:=NU.o _ WK;obtain⟨acc,YX⟩:∃acc,(r.take q).filter F=acc:=⟨_,rfl⟩;have Uk:=hI YX;have OT:acc.length<=6:=by rw[<-YX];exact ZT (Tz _ _) (by rw[X_];omega)
   rw[YX] at Z9;have Yo:=hI Z9;obtain⟨al,cl,Ki⟩:=ZJ Z9;subst Ki;clear YX;by_cases Kh:q<r.length
   ·obtain⟨z,hz⟩:∃z,r[q]? = some z:=⟨r[q],by simp[Kh]⟩
    obtain⟨bx,ox,WV,YF,QM⟩:=Kj.o q z hz;subst WV;obtain⟨zl,zc⟩:=QM _ WK;have GA:Hid (LArg wr (.slice am met.length cm) met):=HMT.o _ WK;have Vp:Hid ((r.take (q+1)).filter F=acc++(if F z then [z] else [])):=by show _=_;rw[<-Uk.o];exact zd r _ q z hz
    have EJ:=hI QM;clear QM hz WK;go_wp2_with fail
    refine (jC met ⟨(d:Int),0,z⟩ _ wr GA.o).mono ?_;rintro e wc ⟨rfl,UL⟩;rw[OU.o z];have U':=hI (NT.o.trans (UL.mono NT.o.size));have YO:=YZ Yo.o UL;have Tj:=(show Hid _ from YO)
    obtain⟨ol2,oc2⟩:=NU.o _ U'.o;obtain⟨zl2,zc2⟩:=EJ.o _ U'.o;clear UL Z9 oc zc ol zl;cases yr:F z
    ·have TX:Hid ((r.take (q+1)).filter F=acc):=by
      show _=_;rw[Vp.o,yr];simp
     clear Vp YO yr;go_wp2
     go_roundw
     case rel=>exact⟨q+1,by omega,by go_num,by rw[TX.o];exact Tj.o,U'.o⟩
     case measure=>simp[intOf];omega
    have TX:Hid ((r.take (q+1)).filter F=acc++[z]):=by
     show _=_;rw[Vp.o,yr];simp
    clear Vp yr;go_wp2_with (at_builtin;refine wpList_append_own _ rfl _ _ 42 rfl wo.heap.size 3 i0 (.int .i64 0) 1 8 underlying42 hi Ze Y_ Zb rfl (by decide) _ _ _ rfl (YO.alloc _) ⟨wc.heap.size,0,none⟩ 1 1 [.int .i64 z] rfl rfl ?c1 ?c2 ?c3 ?c4 ?c5 ?_)
    case c1=>exact Jk wc z
    case c2=>intro u hu;rcases Zh.1 hu with rfl;rfl
    case c3=>unfold maxLen;omega
    case c4=>omega
    case c5=>have:=U'.o.size;simp;omega
    intro v3 w3 ZX Z1 _;have WL:Hid (w3.ownsRow wo.heap.size 3 1 v3 ((r.take (q+1)).filter F).length (((r.take (q+1)).filter F).map (Value.int .i64))):=by
     show w3.ownsRow _ _ _ _ _ _;rw[TX.o,ZC,YY];exact ZX
    have ZM:Hid (Bw wo w3):=(U'.o.alloc U'.o.size _).grown Z1 (by have:=U'.o.size;simp;omega) (λg h=>(YO.lt g h).1)
    clear ZX Z1 YO;go_wp2
    go_roundw
    case rel=>exact⟨q+1,by omega,by go_num,WL.o,ZM.o⟩
    case measure=>simp[intOf];omega
   have Cm:Hid (r.filter F=acc):=by show _=_;rw[<-Uk.o,Zi (by omega)]
   have QP:Hid (UJ Z (.slice an d cn) cells E d wr):=OE.o.below NT.o;have Us:Hid (wr.ownsRow Z.heap.size 3 1 (.slice al acc.length cl) acc.length (acc.map (Value.int .i64))):=World.ownsRow.mono Yo.o X2.o.size;have Xr:=QP.o.1;have Y':=QP.o.2.2.size;clear Z9 WK;go_wp2_with (at_builtin;refine Et rfl _ _ rfl Z.heap.size _ d cells rfl (Xr.alloc _) wr.heap.size (.slice al acc.length cl) rfl rfl ?c1 ?c2 ?c3 ?_)
   case c1=>exact Zu _ _ _ 0 (by simp)
   case c2=>omega
   case c3=>simp;omega
   intro v3 w3 ZX Z1;have WG:Hid (UJ Z v3 (cells++[.slice al acc.length cl]) E (d+1) w3):=(QP.o.below (Z4 _ _)).push (by rw[WO.o,Cm.o]) (Or.inr (Us.o.alloc _)) ZX Z1
   clear ZX Z1 Xr;go_wp2
   go_roundw
   case rel=>exact⟨d+1,_,by omega,by go_num,WG.o⟩
   case measure=>simp[intOf];omega
  have jg:d=E.length:=by have:=EM.o;omega
  have jf:Hid (RArg wr (.slice an d cn) (TL k s)/\Bw w wr):=by
   refine⟨?_,PZ.o.trans (X2.o.mono PZ.o.size)⟩;rw[HE.o];have h:=OE.o;subst jg;exact h.arg
  clear jg;go_wp2
  go_ret
  exact⟨_,rfl,jf.o.1,jf.o.2⟩
 have HF:Hid (TL k s=s):=zNI k s hf;go_wp2
 go_ret
 exact⟨_,rfl,by rw[HF.o];exact HV.o,Zt.o⟩
theorem yq (vs:List MVar) (hv:XU vs) (c:Cla) (v:Nat) (x:Int) (hn:v<vs.length):x∈(Vr (Ym vs) c).getD v []↔((ZF vs v).lo<=x/\x<=(ZF vs v).hi)/\(zAH vs c).testBit (bitV vs v x)=false:=by
 unfold Vr;rw[MK,yT vs v hn,Hz]
 constructor
 ·rintro ⟨⟨h1,h2⟩,h3⟩
  refine⟨⟨h1,h2⟩,?_⟩;obtain⟨e1,e2,e3⟩:=El vs hv v x h1 h2;cases hb:(zAH vs c).testBit (bitV vs v x) with
  | false=>rfl
  | true =>
    have:=((IZ vs hv c _).1 hb).2.2;rw[e1,e3] at this;rw[this] at h3;cases h3
 rintro ⟨⟨h1,h2⟩,h3⟩;refine⟨⟨h1,h2⟩,?_⟩;obtain⟨e1,e2,e3⟩:=El vs hv v x h1 h2;cases ho:oneB c v x with
 | false=>rfl
 | true =>
   have:(zAH vs c).testBit (bitV vs v x)=true:=(IZ vs hv c _).2 (by rw[e1,e3];exact⟨hn,e2,ho⟩)
   rw[this] at h3;cases h3
theorem zTD (vs:List MVar) (hv:XU vs) (c:Cla):Wu vs.length (Zg (zAN vs) (zAH vs c))=zAI (Vr (Ym vs) c):=by
 have TS:InS vs (Vr (Ym vs) c):=yS (Ca vs) _;cases hf:zAI (Vr (Ym vs) c) with
 | false =>
   refine kQ _ _ _ (λi hi=>?_) (kN vs hv TS hf)
   obtain⟨g1,g2,g3⟩:=(Kc vs hv _ i).1 hi;have:=((yq vs hv c _ _ g1).1 g3).2;rw[sX] at this;exact (Kd _ _ _).2 ⟨(Cb vs hv i).2 ⟨g1,g2⟩,this⟩
 | true =>
   cases hl:Wu vs.length (Zg (zAN vs) (zAH vs c)) with
   | true=>rfl
   | false =>
     have:zAI (Vr (Ym vs) c)=false:=(LA _).2 λv X8=>by
      rw[TS.1] at X8;obtain⟨k,hk,hb⟩:=Cf _ _ hl v X8;obtain⟨b1,b2⟩:=(Kd _ _ _).1 hb;obtain⟨_,w2⟩:=(Cb vs hv _).1 b1;have e1:(6 * v+k) / 6=v:=by omega
      have e2:(6 * v+k) % 6=k:=by omega
      rw[e1,e2] at w2;have e3:bitV vs v ((ZF vs v).lo+(k:Int))=6 * v+k:=by unfold bitV;omega
      exact⟨(ZF vs v).lo+(k:Int),(yq vs hv c v _ X8).2 ⟨yU vs v k w2,by rw[e3];exact b2⟩⟩
     rw[hf] at this;cases this
theorem zTE (m:Mod) (hm:Zs m=0) (j:Nat) (k:MCon) (hk:m.cons[j]? = some k) (c:Cla):zAI (TL k (Vr (Ym m.vars) c))=TI m.vars (XB m.vars k) (zAH m.vars c):=by
 have hv:=Py m hm;have h1:=Ai m hm;obtain⟨k1,k2⟩:=E6 m hm j k hk;have TS:InS m.vars (Vr (Ym m.vars) c):=yS (Ca m.vars) _;unfold TI;rw[zTD m.vars hv c];cases hf:zAI (Vr (Ym m.vars) c) with
 | true=>rw[cS k _ hf,hf];rfl
 | false =>
   rw[Bool.false_or];have X6:∀v∈YC k,0<=v/\v<((Vr (Ym m.vars) c).length:Int):=by rw[TS.1];exact k1
   cases ha:(XB m.vars k).any (Sc (zAH m.vars c)) with
   | true =>
     obtain⟨p,hp,ZZ⟩:=Yh.1 ha;have hz:p &&& zAH m.vars c=0:=by unfold Sc at ZZ;simpa using ZZ
     obtain⟨u,l1,l2,l3,l4,_,l6⟩:=Af m.vars k _ _ _ p k1 (by simp[XM]) hp
     have VO:∀v∈YC k,Zx u v∈(Vr (Ym m.vars) c).getD v.toNat []:=λv U1=>by
      obtain⟨b0,b1⟩:=k1 v U1;refine (yq m.vars hv c v.toNat _ (by omega)).2 ⟨l3 v U1,?_⟩
      cases hb:(zAH m.vars c).testBit (bitV m.vars v.toNat (Zx u v)) with
      | false=>rfl
      | true =>
        have:=(Ph p (zAH m.vars c) _).2 ⟨l6 v U1,hb⟩;rw[hz] at this;simp at this
     show _=false;rw[LA];intro v X8;have Vo:v<(Vr (Ym m.vars) c).length:=by unfold TL at X8;rwa [Vs] at X8
     unfold TL;by_cases XV:(v:Int)∈YC k
     ·refine⟨Zx u (v:Int),(MK _ _ _ _).2 ⟨by have:=VO _ XV;rwa [YK] at this,?_⟩⟩
      rw[wA k _ hf v _ XV];exact (wB k _ X6 k2 v _ XV).2 ⟨u,by rw[l1,TS.1],VO,l2,rfl⟩
     obtain⟨x,hx⟩:=(LA _).1 hf v Vo;refine⟨x,(MK _ _ _ _).2 ⟨hx,?_⟩⟩;by_cases hn:(YC k).length=0
     ·rw[Al k _ hf hn]
      rw[<-l2];refine E7 k _ _ (λw hw=>?_) k2
      rw[Xo.1 hn] at hw;cases hw
     exact oZ k _ hn v x XV
   | false =>
     show _=true;apply Xz;intro ZP;have Gr:zAI (TL k (Vr (Ym m.vars) c))=false:=by simpa using ZP
     have P8:(TL k (Vr (Ym m.vars) c)).length=m.vars.length:=by unfold TL;rw[Vs];exact TS.1
     have hex:∃u:List Int,(∀v∈YC k,Zx u v∈(Vr (Ym m.vars) c).getD v.toNat [])/\YL k u=true:=by
      by_cases hn:(YC k).length=0
      ·obtain⟨x,hx⟩:=(LA _).1 Gr 0 (by omega)
       unfold TL at hx;have:=((MK _ _ _ _).1 hx).2;rw[Al k _ hf hn] at this;exact⟨_,λv U1=>(by rw[Xo.1 hn] at U1;cases U1),this⟩
      obtain⟨v,U1⟩:=List.exists_mem_of_ne_nil _ (λh=>hn (by rw[h];rfl):YC k≠[])
      obtain⟨b0,b1⟩:=k1 v U1;obtain⟨x,hx⟩:=(LA _).1 Gr v.toNat (by omega)
      unfold TL at hx;have:=((MK _ _ _ _).1 hx).2;have BB:((v.toNat:Nat):Int)∈YC k:=by rw[show ((v.toNat:Nat):Int)=v by omega];exact U1
      rw[wA k _ hf _ _ BB] at this;obtain⟨u,_,h2,h3,_⟩:=(wB k _ X6 k2 _ _ BB).1 this;exact⟨u,h2,h3⟩
     obtain⟨u,hu1,yz⟩:=hex;have F5:∀v:Nat,∃x:Int,v<m.vars.length->(x∈(Vr (Ym m.vars) c).getD v []/\((v:Int)∈YC k->x=Zx u (v:Int))):=λv=>by
      by_cases XV:(v:Int)∈YC k
      ·exact⟨Zx u (v:Int),λ_=>⟨by have:=hu1 _ XV;rwa [YK] at this,λ_=>rfl⟩⟩
      by_cases Vo:v<m.vars.length
      ·obtain⟨x,hx⟩:=(LA _).1 hf v (by rw[TS.1];exact Vo)
       exact⟨x,λ_=>⟨hx,λh=>absurd h XV⟩⟩
      exact⟨0,λh=>absurd h Vo⟩
     let g:Nat->Int:=λv=>Classical.choose (F5 v)
     have hg:∀v,v<m.vars.length->(g v∈(Vr (Ym m.vars) c).getD v []/\((v:Int)∈YC k->g v=Zx u (v:Int))):=λv=>NC (F5 v)
     obtain⟨vals,IH⟩:∃vals:List Int,vals=(List.range m.vars.length).map g:=⟨_,rfl⟩;have VL:∀v:Nat,v<m.vars.length->Zx vals (v:Int)=g v:=λv Vo=>by
      unfold Zx;rw[IH,YK,ZO,YN,Qy Vo];rfl
     have r':S8 m.vars vals:=⟨by rw[IH];simp,λv Vo=>by rw[VL v Vo];exact TS.2 v _ Vo (hg v Vo).1⟩
     have hh:YL k vals=true:=by
      rw[<-yz];refine E7 k _ _ (λw hw=>?_) k2
      obtain⟨b0,b1⟩:=k1 w hw;have tc:w.toNat<m.vars.length:=by omega
      have:=VL w.toNat tc;rw[show ((w.toNat:Nat):Int)=w by omega] at this
      rw[this];have h2:=(hg w.toNat tc).2;rw[show ((w.toNat:Nat):Int)=w by omega] at h2
      exact h2 hw
     obtain⟨p,hp,hb,_⟩:=oI m.vars hv k k1 k2 vals r' hh;have:(XB m.vars k).any (Sc (zAH m.vars c))=true:=by
      refine Yh.2 ⟨p,hp,?_⟩;unfold Sc;rw[beq_iff_eq];apply Qz;intro i;rw[SN];cases B6:(p &&& zAH m.vars c).testBit i with
      | false=>rfl
      | true =>
        obtain⟨q1,q2⟩:=(Ph _ _ _).1 B6;obtain⟨v,Vo,rfl⟩:=hb i q1;have h3:=((yq m.vars hv c v _ Vo).1 (hg v Vo).1).2;have e:bitV m.vars v (g v)=posV m.vars vals v:=by unfold bitV posV;rw[VL v Vo]
        rw[e,q2] at h3;cases h3
     rw[this] at ha;cases ha
end Go.Proofs.YtndcpnlaadikoaaGreatDoor
