/- What the proof leans on, part 25. -/
import Derived.Test.YtndcpnlaadikoaaGreatDoorPartAx
set_option maxRecDepth 100000
set_option maxHeartbeats 4000000
open Go.Proofs.Tryz
namespace Go.Proofs.YtndcpnlaadikoaaGreatDoor
open Go.RowKit
def IX (vs:List MVar) (c:MCon):Int :=
 if 1<=c.kind/\c.kind<=10 then (if QX c then 2 else if UT c then (if QW c vs.length then (if RI c then Y4 (c.lits.map (litE vs)) else 3) else 5) else 1) else 7
structure CkS (w wr:World) (mb cb:Array Value):Prop where
 bel:Bw w wr
 mod:wr.heap[w.heap.size]? = some (.cells mb 25)
 con:wr.heap[w.heap.size+1]? = some (.cells cb 69)
theorem CkS.below {w wr wr':World} {mb cb:Array Value} (h:CkS w wr mb cb) (hb:Bw wr wr'):CkS w wr' mb cb :=
 ⟨h.bel.trans (hb.mono h.bel.size),(hb.block _ (Z8.1 h.mod).1).trans h.mod,(hb.block _ (Z8.1 h.con).1).trans h.con⟩
theorem B2 (v:Int) (n:Nat):(decide (0<=v)&&decide (v<=(n:Int) - 1))=Wd v n:=by
 unfold Wd;rw[Yg];simp only[ZB,decide_eq_true_eq];omega
theorem zLg (m:Mod) (c:MCon) (a:Option Addr) (cap:Nat) (cs vv vc vr vl:Value) (w:World) (hm:m.vars.length<=maxLen) (hk:KArg w vv vc vr vl c) :
 Calls prog 107 #[.agg #[.slice a m.vars.length cap,cs,.int .i64 m.goal,.int .i64 m.var],conV vv vc vr vl c] w λe w'=>e=.returned (.int .i64 (IX m.vars c))/\Bw w w':=by
 have HK:Hid (∀w':World,Bw w w'->KArg w' vv vc vr vl c):=λw' h=>KArg.below h hk
 obtain⟨⟨a1,c1,rfl,Y0,_⟩,⟨a2,c2,rfl,Wk,_⟩,⟨a3,c3,rfl,Vk,_⟩,⟨a4,c4,rfl,hm4,_⟩⟩:=hk;obtain⟨R,hR⟩:∃R,IX m.vars c=R:=⟨_,rfl⟩;rw[hR];have HM:=hI hm;unfold IX at hR;unfold conV;unfold maxLen at hm Y0 Wk Vk hm4;have Xd:Hid (CkS w ((w.alloc (.cells #[.slice a m.vars.length cap,cs,.int .i64 m.goal,.int .i64 m.var] 25)).alloc (.cells #[.int .i64 c.kind,.slice a1 c.vars.length c1,.slice a2 c.consts.length c2,.int .i64 c.n,.slice a3 c.rows.length c3,.slice a4 c.lits.length c4] 69)) #[.slice a m.vars.length cap,cs,.int .i64 m.goal,.int .i64 m.var] #[.int .i64 c.kind,.slice a1 c.vars.length c1,.slice a2 c.consts.length c2,.int .i64 c.n,.slice a3 c.rows.length c3,.slice a4 c.lits.length c4]):=by
  refine⟨(Z4 _ _).alloc (by simp) _,((Z4 (w.alloc (.cells #[.slice a m.vars.length cap,cs,.int .i64 m.goal,.int .i64 m.var] 25)) _).block w.heap.size (by simp)).trans (heap_alloc_new w _),?_⟩
  have h:=heap_alloc_new (w.alloc (.cells #[.slice a m.vars.length cap,cs,.int .i64 m.goal,.int .i64 m.var] 25)) (.cells #[.int .i64 c.kind,.slice a1 c.vars.length c1,.slice a2 c.consts.length c2,.int .i64 c.n,.slice a3 c.rows.length c3,.slice a4 c.lits.length c4] 69);rw[World.size_alloc] at h;exact h
 obtain⟨y,hy⟩:∃y,(w.alloc (.cells #[.slice a m.vars.length cap,cs,.int .i64 m.goal,.int .i64 m.var] 25)).alloc (.cells #[.int .i64 c.kind,.slice a1 c.vars.length c1,.slice a2 c.consts.length c2,.int .i64 c.n,.slice a3 c.rows.length c3,.slice a4 c.lits.length c4] 69)=y:=⟨_,rfl⟩;rw[hy] at Xd;have HY:=hI hy;clear hy;have Ei:Hid (IntKind.i64.wrap ((m.vars.length:Int) - 1)=(m.vars.length:Int) - 1):=by show _=_;rw[IntKind.wrap_i64];omega
 by_cases UE:1<=c.kind/\c.kind<=10
 ·rw[if_pos UE] at hR
  have HR:Hid (R=if QX c then 2 else if UT c then (if QW c m.vars.length then (if RI c then Y4 (c.lits.map (litE m.vars)) else 3) else 5) else 1):=hR.symm
  have kz:=hI UE;have q1:(decide (1<=c.kind)&&decide (c.kind<=10))=true:=by rw[ZB];simp;omega
  clear hR UE;go_enter func107,ntmps107
  go_wp2_with fail
  refine (Rb _ _ _ _).mono ?_;rintro e wq ⟨rfl,rfl⟩;rw[q1,HY.o];clear HY q1;have k0:y.cell? ⟨w.heap.size+1,0,none⟩=some (.int .i64 c.kind):=Z_ Xd.o.con 0 _ rfl;have k1:y.cell? ⟨w.heap.size+1,1,none⟩=some (.slice a1 c.vars.length c1):=Z_ Xd.o.con 1 _ rfl;have k2:y.cell? ⟨w.heap.size+1,2,none⟩=some (.slice a2 c.consts.length c2):=Z_ Xd.o.con 2 _ rfl;have k3:y.cell? ⟨w.heap.size+1,3,none⟩=some (.int .i64 c.n):=Z_ Xd.o.con 3 _ rfl;have k4:y.cell? ⟨w.heap.size+1,4,none⟩=some (.slice a3 c.rows.length c3):=Z_ Xd.o.con 4 _ rfl;have k5:y.cell? ⟨w.heap.size+1,5,none⟩=some (.slice a4 c.lits.length c4):=Z_ Xd.o.con 5 _ rfl;by_cases t1:4<c.vars.length
  ·have HN:Hid (R=2):=by show _=_;rw[HR.o,if_pos (by unfold QX;simp[t1])]
   go_wp2
   go_ret
   exact⟨Zm HN.o.symm,Xd.o.bel⟩
  by_cases t2:4<c.lits.length
  ·have HN:Hid (R=2):=by show _=_;rw[HR.o,if_pos (by unfold QX;simp[t2])]
   go_wp2
   go_ret
   exact⟨Zm HN.o.symm,Xd.o.bel⟩
  by_cases t3:8<c.consts.length
  ·have HN:Hid (R=2):=by show _=_;rw[HR.o,if_pos (by unfold QX;simp[t3])]
   go_wp2
   go_ret
   exact⟨Zm HN.o.symm,Xd.o.bel⟩
  by_cases t4:20<c.rows.length
  ·have HN:Hid (R=2):=by show _=_;rw[HR.o,if_pos (by unfold QX;simp[t4])]
   go_wp2
   go_ret
   exact⟨Zm HN.o.symm,Xd.o.bel⟩
  have Yl:Hid (R=if UT c then (if QW c m.vars.length then (if RI c then Y4 (c.lits.map (litE m.vars)) else 3) else 5) else 1):=by show _=_;rw[HR.o,if_neg (by unfold QX;simp[t1,t2,t3,t4])]
  clear HR;go_wp2_with fail
  have Lz:=HK.o _ Xd.o.bel;refine (zSn c _ _ _ _ _ Lz kz.o (by omega) (by omega) (by omega) (by omega)).mono ?_
  rintro e w1 ⟨rfl,Z5⟩;have Za:=hI (Xd.o.below Z5);clear Z5 Xd k0 k1 k2 k3 k4 k5 Lz kz;cases hf:UT c
  ·have HN:Hid (R=1):=by show _=_;rw[Yl.o,hf];rfl
   clear hf;go_wp2
   go_ret
   exact⟨Zm HN.o.symm,Za.o.bel⟩
  have Zy:Hid (R=if QW c m.vars.length then (if RI c then Y4 (c.lits.map (litE m.vars)) else 3) else 5):=by show _=_;rw[Yl.o,hf];rfl
  clear Yl hf;go_wp2_with fail
  go_loopw [5] (λi wr=>∃k:Nat,k<=c.vars.length/\i=.int .i64 k/\Hid ((c.vars.take k).all (λv=>Wd v m.vars.length)=true)/\Hid (CkS w wr #[.slice a m.vars.length cap,cs,.int .i64 m.goal,.int .i64 m.var] #[.int .i64 c.kind,.slice a1 c.vars.length c1,.slice a2 c.consts.length c2,.int .i64 c.n,.slice a3 c.rows.length c3,.slice a4 c.lits.length c4])) (λi _=>c.vars.length - (intOf i).toNat)
  case atStart=>exact⟨0,by omega,rfl,rfl,Za⟩
  clear Za;obtain⟨k,TM,rfl,hall,HS⟩:=hrel;have k1:wr.cell? ⟨w.heap.size+1,1,none⟩=some (.slice a1 c.vars.length c1):=Z_ HS.o.con 1 _ rfl;have m0:wr.cell? ⟨w.heap.size,0,none⟩=some (.slice a m.vars.length cap):=Z_ HS.o.mod 0 _ rfl;have l0:w.heap.size+1<wr.heap.size:=(Z8.1 HS.o.con).1;by_cases Z7:k<c.vars.length
  ·obtain⟨z,hz⟩:∃z,c.vars[k]? = some z:=⟨c.vars[k],by simp[Z7]⟩
   obtain⟨a9,c9,e9,_,hr⟩:=(HK.o _ HS.o.bel).1
   injection e9 with e91 _ e92
   rw[<-e91] at hr;clear e91 e92;obtain⟨b,off,ha,hb,hc⟩:=hr k z hz;rw[ha] at k1;clear ha;have HZ:=hI hz;clear hz hr;cases hv:Wd z m.vars.length
   ·have hq:(decide (0<=z)&&decide (z<=(m.vars.length:Int) - 1))=false:=by rw[B2];exact hv
    have HN:Hid (R=5):=by show _=_;rw[Zy.o,if_neg (by unfold QW;rw[SJ _ c.vars k z HZ.o hv];simp)]
    clear hv;go_wp2_with fail
    go_region_law
     (first
       | (rw[if_pos (by rfl)];go_simp;go_at_call 40;refine (Rb _ _ _ _).mono ?_;rintro e w3 ⟨rfl,V'⟩;have hB3:Bw wr w3:=(by subst V';exact (Z6 _ _).drew);clear V';(try rw[Ei.o]);rw[hq]))
    all_goals
     go_wp2
     go_ret
     exact⟨Zm HN.o.symm,(HS.o.below hB3).bel⟩
   have hq:(decide (0<=z)&&decide (z<=(m.vars.length:Int) - 1))=true:=by rw[B2];exact hv
   have HN:Hid ((c.vars.take (k+1)).all (λv=>Wd v m.vars.length)=true):=RF _ c.vars k z HZ.o hall.o hv
   clear hv;go_wp2_with fail
   go_region_law
    (first
      | (rw[if_pos (by rfl)];go_simp;go_at_call 40;refine (Rb _ _ _ _).mono ?_;rintro e w3 ⟨rfl,V'⟩;have hB3:Bw wr w3:=(by subst V';exact (Z6 _ _).drew);clear V';(try rw[Ei.o]);rw[hq]))
   all_goals
    have Zq:=hI (HS.o.below hB3);clear hB3;go_wp2
    go_roundw
    case rel=>exact⟨k+1,by omega,by go_num,HN,Zq⟩
    case measure=>simp[intOf];omega
  have Uy:Hid (c.vars.all (λv=>Wd v m.vars.length)=true):=RB _ c.vars k Z7 hall.o
  clear hall;go_wp2_with fail
  clear k1 m0 l0 Z7 TM;obtain⟨wa,MJ⟩:∃wa,wr=wa:=⟨_,rfl⟩;rw[MJ] at HS ⊢;clear MJ;go_loopw [6] (λi wr=>∃k:Nat,k<=c.lits.length/\i=.int .i64 k/\Hid ((c.lits.take k).all (λl=>Wd l.var m.vars.length)=true)/\Hid (CkS w wr #[.slice a m.vars.length cap,cs,.int .i64 m.goal,.int .i64 m.var] #[.int .i64 c.kind,.slice a1 c.vars.length c1,.slice a2 c.consts.length c2,.int .i64 c.n,.slice a3 c.rows.length c3,.slice a4 c.lits.length c4])) (λi _=>c.lits.length - (intOf i).toNat)
  case atStart=>exact⟨0,by omega,rfl,rfl,HS⟩
  clear HS;obtain⟨k,TM,rfl,hall,HS⟩:=hrel;have k5:wr.cell? ⟨w.heap.size+1,5,none⟩=some (.slice a4 c.lits.length c4):=Z_ HS.o.con 5 _ rfl;have m0:wr.cell? ⟨w.heap.size,0,none⟩=some (.slice a m.vars.length cap):=Z_ HS.o.mod 0 _ rfl;have l0:w.heap.size+1<wr.heap.size:=(Z8.1 HS.o.con).1;by_cases Z7:k<c.lits.length
  ·obtain⟨z,hz⟩:∃z,c.lits[k]? = some z:=⟨c.lits[k],by simp[Z7]⟩
   obtain⟨a9,c9,e9,_,hr⟩:=(HK.o _ HS.o.bel).2.2.2
   injection e9 with e91 _ e92
   rw[<-e91] at hr;clear e91 e92;obtain⟨b,off,ha,hb,XN,X',Yb⟩:=hr k z hz;rw[ha] at k5;clear ha;have HZ:Hid (c.lits[k]? = some z):=hz;clear hz hr;cases hv:Wd z.var m.vars.length
   ·have hq:(decide (0<=z.var)&&decide (z.var<=(m.vars.length:Int) - 1))=false:=by rw[B2];exact hv
    have HN:Hid (R=5):=by show _=_;rw[Zy.o,if_neg (by unfold QW;rw[SJ _ c.lits k z HZ.o hv];simp)]
    clear hv;go_wp2_with fail
    go_region_law
     (first
       | (rw[if_pos (by rfl)];go_simp;go_at_call 40;refine (Rb _ _ _ _).mono ?_;rintro e w3 ⟨rfl,V'⟩;have hB3:Bw wr w3:=(by subst V';exact (Z6 _ _).drew);clear V';(try rw[Ei.o]);rw[hq]))
    all_goals
     go_wp2
     go_ret
     exact⟨Zm HN.o.symm,(HS.o.below hB3).bel⟩
   have hq:(decide (0<=z.var)&&decide (z.var<=(m.vars.length:Int) - 1))=true:=by rw[B2];exact hv
   have HN:Hid ((c.lits.take (k+1)).all (λl=>Wd l.var m.vars.length)=true):=RF _ c.lits k z HZ.o hall.o hv
   clear hv;go_wp2_with fail
   go_region_law
    (first
      | (rw[if_pos (by rfl)];go_simp;go_at_call 40;refine (Rb _ _ _ _).mono ?_;rintro e w3 ⟨rfl,V'⟩;have hB3:Bw wr w3:=(by subst V';exact (Z6 _ _).drew);clear V';(try rw[Ei.o]);rw[hq]))
   all_goals
    have Zq:=hI (HS.o.below hB3);clear hB3;go_wp2
    go_roundw
    case rel=>exact⟨k+1,by omega,by go_num,HN,Zq⟩
    case measure=>simp[intOf];omega
  have Ys:Hid (R=if RI c then Y4 (c.lits.map (litE m.vars)) else 3):=by show _=_;rw[Zy.o,if_pos (by unfold QW;rw[Uy.o,RB _ c.lits k Z7 hall.o];rfl)]
  clear hall Uy Zy;go_wp2_with fail
  clear k5 m0 l0 Z7 TM;obtain⟨wb,yL⟩:∃wb,wr=wb:=⟨_,rfl⟩;rw[yL] at HS ⊢;clear yL;go_loopw [7] (λi wr=>∃k:Nat,k<=c.consts.length/\i=.int .i64 k/\Hid ((c.consts.take k).all XC=true)/\Hid (CkS w wr #[.slice a m.vars.length cap,cs,.int .i64 m.goal,.int .i64 m.var] #[.int .i64 c.kind,.slice a1 c.vars.length c1,.slice a2 c.consts.length c2,.int .i64 c.n,.slice a3 c.rows.length c3,.slice a4 c.lits.length c4])) (λi _=>c.consts.length - (intOf i).toNat)
  case atStart=>exact⟨0,by omega,rfl,rfl,HS⟩
  clear HS;obtain⟨k,TM,rfl,hall,HS⟩:=hrel;have k2:wr.cell? ⟨w.heap.size+1,2,none⟩=some (.slice a2 c.consts.length c2):=Z_ HS.o.con 2 _ rfl;by_cases Z7:k<c.consts.length
  ·obtain⟨z,hz⟩:∃z,c.consts[k]? = some z:=⟨c.consts[k],by simp[Z7]⟩
   obtain⟨a9,c9,e9,_,hr⟩:=(HK.o _ HS.o.bel).2.1
   injection e9 with e91 _ e92
   rw[<-e91] at hr;clear e91 e92;obtain⟨b,off,ha,hb,hc⟩:=hr k z hz;rw[ha] at k2;clear ha;have HZ:Hid (c.consts[k]? = some z):=hz;clear hz hr;go_wp2_with fail
   refine (zh _ _).mono ?_;rintro e wq ⟨rfl,rfl⟩;cases hv:XC z
   ·have HN:Hid (R=3):=by show _=_;rw[Ys.o,if_neg (by unfold RI;rw[SJ _ c.consts k z HZ.o hv];simp)]
    go_wp2
    go_ret
    exact⟨Zm HN.o.symm,HS.o.bel⟩
   have HN:Hid ((c.consts.take (k+1)).all XC=true):=RF _ c.consts k z HZ.o hall.o hv;go_wp2
   go_roundw
   case rel=>exact⟨k+1,by omega,by go_num,HN,HS⟩
   case measure=>simp[intOf];omega
  have QP:Hid (c.consts.all XC=true):=RB _ c.consts k Z7 hall.o;clear hall;have k3:wr.cell? ⟨w.heap.size+1,3,none⟩=some (.int .i64 c.n):=Z_ HS.o.con 3 _ rfl;go_wp2_with fail
  refine (zh _ _).mono ?_;rintro e wc ⟨rfl,ky⟩;rw[<-ky] at HS;clear ky k2 k3 Z7 TM;cases hv:XC c.n
  ·have HN:Hid (R=3):=by show _=_;rw[Ys.o,if_neg (by unfold RI;rw[hv];simp)]
   go_wp2
   go_ret
   exact⟨Zm HN.o.symm,HS.o.bel⟩
  have kx:=hI hv;clear hv;go_wp2_with fail
  go_loopw [8] (λi wr=>∃k:Nat,k<=c.rows.length/\i=.int .i64 k/\Hid ((c.rows.take k).all (λr=>r.all XC)=true)/\Hid (CkS w wr #[.slice a m.vars.length cap,cs,.int .i64 m.goal,.int .i64 m.var] #[.int .i64 c.kind,.slice a1 c.vars.length c1,.slice a2 c.consts.length c2,.int .i64 c.n,.slice a3 c.rows.length c3,.slice a4 c.lits.length c4])) (λi _=>c.rows.length - (intOf i).toNat)
  case atStart=>exact⟨0,by omega,rfl,rfl,HS⟩
  clear HS;obtain⟨k,TM,rfl,hall,HS⟩:=hrel;have k4:wr.cell? ⟨w.heap.size+1,4,none⟩=some (.slice a3 c.rows.length c3):=Z_ HS.o.con 4 _ rfl;by_cases Z7:k<c.rows.length
  ·obtain⟨z,hz⟩:∃z,c.rows[k]? = some z:=⟨c.rows[k],by simp[Z7]⟩
   obtain⟨a9,c9,e9,_,hr⟩:=(HK.o _ HS.o.bel).2.2.1
   injection e9 with e91 _ e92
   rw[<-e91] at hr;clear e91 e92;obtain⟨b,off,x,ha,hb,hc,hx⟩:=hr k z hz;rw[ha] at k4;clear ha;obtain⟨a9,c9,rfl,sM,kw⟩:=hx;have HZ:Hid (c.rows[k]? = some z):=hz;have HV9:=hI kw;unfold maxLen at sM;obtain⟨_,sM⟩:=sM;clear hz hr kw;go_wp2_with fail
   go_loop [9] (λi=>∃j:Nat,j<=z.length/\i=.int .i64 j/\Hid ((z.take j).all XC=true)) (λi=>z.length - (intOf i).toNat)
   case atStart=>exact⟨0,by omega,rfl,rfl⟩
   obtain⟨j,OW,rfl,MI⟩:=hrel;by_cases Kb:j<z.length
   ·obtain⟨u,hu⟩:∃u,z[j]? = some u:=⟨z[j],by simp[Kb]⟩
    obtain⟨b2,off2,PI,ZY,Yb⟩:=HV9.o j u hu;subst PI;have HU:=hI hu;clear hu;go_wp2_with fail
    refine (zh _ _).mono ?_;rintro e wq ⟨rfl,rfl⟩;cases hv:XC u
    ·have HN:Hid (R=3):=by show _=_;rw[Ys.o,if_neg (by unfold RI;rw[SJ (λr=>r.all XC) c.rows k z HZ.o (SJ _ z j u HU.o hv)];simp)]
     go_wp2
     go_ret
     exact⟨Zm HN.o.symm,HS.o.bel⟩
    have HN:Hid ((z.take (j+1)).all XC=true):=RF _ z j u HU.o MI.o hv;go_wp2
    go_round
    case rel=>exact⟨j+1,by omega,by go_num,HN⟩
    case measure=>simp[intOf];omega
   have HN:Hid ((c.rows.take (k+1)).all (λr=>r.all XC)=true):=RF _ c.rows k z HZ.o hall.o (RB _ z j Kb MI.o)
   clear MI;go_wp2
   go_roundw
   case rel=>exact⟨k+1,by omega,by go_num,HN,HS⟩
   case measure=>simp[intOf];omega
  have Wq:Hid (R=Y4 (c.lits.map (litE m.vars))):=by show _=_;rw[Ys.o,if_pos (by unfold RI;rw[QP.o,kx.o,RB _ c.rows k Z7 hall.o];rfl)]
  clear hall QP kx Ys;go_wp2_with fail
  clear k4 Z7 TM;obtain⟨wd,B1⟩:∃wd,wr=wd:=⟨_,rfl⟩;rw[B1] at HS ⊢;clear B1;go_loopw [10] (λi wr=>∃k:Nat,k<=c.lits.length/\i=.int .i64 k/\Hid (Y4 ((c.lits.map (litE m.vars)).take k)=0)/\Hid (CkS w wr #[.slice a m.vars.length cap,cs,.int .i64 m.goal,.int .i64 m.var] #[.int .i64 c.kind,.slice a1 c.vars.length c1,.slice a2 c.consts.length c2,.int .i64 c.n,.slice a3 c.rows.length c3,.slice a4 c.lits.length c4])) (λi _=>c.lits.length - (intOf i).toNat)
  case atStart=>exact⟨0,by omega,rfl,rfl,HS⟩
  clear HS;obtain⟨k,TM,rfl,hall,HS⟩:=hrel;have k5:wr.cell? ⟨w.heap.size+1,5,none⟩=some (.slice a4 c.lits.length c4):=Z_ HS.o.con 5 _ rfl;have m0:wr.cell? ⟨w.heap.size,0,none⟩=some (.slice a m.vars.length cap):=Z_ HS.o.mod 0 _ rfl;have m1:wr.cell? ⟨w.heap.size,1,none⟩=some (cs):=Z_ HS.o.mod 1 _ rfl;have m2:wr.cell? ⟨w.heap.size,2,none⟩=some (.int .i64 m.goal):=Z_ HS.o.mod 2 _ rfl;have m3:wr.cell? ⟨w.heap.size,3,none⟩=some (.int .i64 m.var):=Z_ HS.o.mod 3 _ rfl;have l0:w.heap.size+1<wr.heap.size:=(Z8.1 HS.o.con).1;by_cases Z7:k<c.lits.length
  ·obtain⟨z,hz⟩:∃z,c.lits[k]? = some z:=⟨c.lits[k],by simp[Z7]⟩
   obtain⟨a9,c9,e9,_,hr⟩:=(HK.o _ HS.o.bel).2.2.2
   injection e9 with e91 _ e92
   rw[<-e91] at hr;clear e91 e92;obtain⟨b,off,ha,hb,XN,X',Yb⟩:=hr k z hz;rw[ha] at k5;clear ha;obtain⟨er,Yy⟩:∃er,litE m.vars z=er:=⟨_,rfl⟩;have HZ:Hid ((c.lits.map (litE m.vars))[k]? = some er):=by show _=_;rw[YN,hz,<-Yy];rfl
   have Xs:=l7 m z a cap cs wr.drew HM.o;rw[Yy] at Xs;clear hz hr Yy;go_wp2_with fail
   go_region_law
    (first
      | (rw[if_pos (by rfl)];go_simp;go_at_call 92;refine Xs.mono ?_;rintro e w3 ⟨rfl,ZG⟩;have hB3:Bw wr w3:=(Z6 _ _).drew.trans ZG;dsimp only))
   all_goals
    have Zq:=hI (HS.o.below hB3);clear hB3 ZG Xs;by_cases he:er=0
    ·subst he
     have HN:Hid (Y4 ((c.lits.map (litE m.vars)).take (k+1))=0):=JG _ k hall.o HZ.o;go_wp2
     go_roundw
     case rel=>exact⟨k+1,by omega,by go_num,HN,Zq⟩
     case measure=>simp[intOf];omega
    have HN:Hid (R=er):=by show _=_;rw[Wq.o];exact L_ _ k er hall.o HZ.o he
    have V3:(er != 0)=true:=by simpa using he
    clear he;go_wp2
    go_ret
    exact⟨Zm HN.o.symm,Zq.o.bel⟩
  have HN:Hid (R=0):=by
   have:=hall.o;rw[Zi (by simp;omega)] at this
   show _=_;rw[Wq.o];exact this
  go_wp2
  go_ret
  exact⟨Zm HN.o.symm,HS.o.bel⟩
 rw[if_neg UE] at hR;have HN:Hid (R=7):=hR.symm;have q1:(decide (1<=c.kind)&&decide (c.kind<=10))=false:=by rw[RY];simp;omega
 go_enter func107,ntmps107
 go_wp2_with fail
 refine (Rb _ _ _ _).mono ?_;rintro e wq ⟨rfl,rfl⟩;rw[q1,HY.o];go_wp2
 go_ret
 exact⟨Zm HN.o.symm,Xd.o.bel⟩
def Ly (t:Tok):Prop:=t.text.size<=4000/\(t.kind=2->(1<=t.text.size/\t.text.size<=4)/\∀c∈t.text.data.toList,48<=c.toNat/\c.toNat<=57)
inductive PR (α:Type) where
 | ok (a:α) (rest:List Tok)
 | bad (place e:Int)
def PR.bind {α β:Type} (p:PR α) (f:α->List Tok->PR β):PR β :=
 match p with
 | .ok a r=>f a r
 | .bad x e=>.bad x e
def ZL (en:Int):List Tok->Tok
 | []=>⟨0,en,ByteArray.empty⟩
 | t :: _=>t
def WU (en:Int) (fits:Bool) (l:List Tok):PR Tok:=if fits then .ok (ZL en l) l.tail else .bad (ZL en l).place 1
def Zv (en:Int) (s:ByteArray) (l:List Tok):PR Tok:=WU en ((ZL en l).text.toList==s.toList) l
def Pf (s:ByteArray):Bool:=Zs ⟨[⟨s,0,0⟩],[],0,0⟩==0
def OA (en:Int) (l:List Tok):PR ByteArray:=(WU en (Pf (ZL en l).text) l).bind λt r=>.ok t.text r
def idxA:List ByteArray->ByteArray->Nat->Int
 | [],_,_=>-1
 | x :: r,n,k=>if n.toList==x.toList then (k:Int) else idxA r n (k+1)
def VJ (en:Int) (texts:List ByteArray) (l:List Tok):PR Int :=
 (WU en (decide (0<=idxA texts (ZL en l).text 0)&&((ZL en l).kind != 0)) l).bind λ_ r=>.ok (idxA texts (ZL en l).text 0) r
def digV (l:List UInt8):Int:=l.foldl (λn c=>n * 10+((c.toNat:Int) - 48)) 0
def Yi (en:Int) (l:List Tok):PR Int :=
 if (ZL en l).text.toList==[45] then
  (Zv en ⟨#[45]⟩ l).bind λ_ l=>(WU en (((ZL en l).kind==2)&&(!((ZL en l).text.toList==[48]))) l).bind λt r=>.ok (-1 * digV t.text.data.toList) r
 else (WU en ((ZL en l).kind==2) l).bind λt r=>.ok (1 * digV t.text.data.toList) r
def Wo:List ByteArray->ByteArray->Int×Bool
 | [],_=>(0,false)
 | n :: r,s=>if (Wo r s).2 then ((Wo r s).1+1,true) else if n.data.toList=s.data.toList then (0,true) else (0,false)
def X7 (en:Int) (names:List ByteArray) (l:List Tok):PR Int :=
 if (Wo names (ZL en l).text).2 then (WU en true l).bind λ_ r=>.ok (Wo names (ZL en l).text).1 r
 else if Pf (ZL en l).text then .bad (ZL en l).place 5 else .bad (ZL en l).place 1
theorem kv (s n:ByteArray):∀l:List ByteArray,Wo (l++[n]) s=if n.data.toList=s.data.toList then ((l.length:Int),true) else Wo l s
 | []=>by
   simp[Wo]
 | m :: l=>by
   have ih:=kv s n l;simp only[O3,Wo,ih];by_cases h:n.data.toList=s.data.toList
   ·rw[if_pos h,if_pos h]
    simp
   rw[if_neg h,if_neg h]
theorem ku:∀l:List ByteArray,(∀n∈l,n.data.toList≠[])->Wo l ByteArray.empty=(0,false)
 | [],_=>rfl
 | n :: l,h=>by
   have ih:=ku l λm hm=>h m (Y2 _ hm)
   simp only[Wo,ih];rw[if_neg (by simp),if_neg (show ¬n.data.toList=ByteArray.empty.data.toList from h n (Zk ..))]
def VV {α:Type} (en:Int) (item:List Tok->PR α):Nat->List α->List Tok->PR (List α)
 | 0,_,_=>.bad 0 0
 | f+1,acc,l =>
   if (ZL en l).text.toList==[44] then (Zv en ⟨#[44]⟩ l).bind λ_ l=>(item l).bind λx l=>VV en item f (acc++[x]) l
   else (Zv en ⟨#[93]⟩ l).bind λ_ l=>.ok acc l
def Yf {α:Type} (en:Int) (item:List Tok->PR α) (l:List Tok):PR (List α) :=
 (Zv en ⟨#[91]⟩ l).bind λ_ l =>
   if (ZL en l).text.toList==[93] then (Zv en ⟨#[93]⟩ l).bind λ_ l=>.ok [] l
   else (item l).bind λx l=>VV en item (l.length+1) [x] l
def Eats {α:Type} (item:List Tok->PR α):Prop:=∀l x r,item l=.ok x r->r.length<=l.length
theorem PR.bind_ok {α β:Type} {p:PR α} {f:α->List Tok->PR β} {b:β} {r:List Tok} (h:p.bind f=.ok b r):∃a q,p=.ok a q/\f a q=.ok b r:=by
 cases p with
 | ok a q=>exact⟨a,q,rfl,h⟩
 | bad x e=>cases h
theorem IW (en:Int) (l:List Tok) (fits:Bool) (t:Tok) (r:List Tok) (h:WU en fits l=.ok t r):r=l.tail:=by
 unfold WU at h
 split at h
 ·cases h;rfl
 cases h
theorem kt {α:Type} (en:Int) (g:List Tok->Bool) (f:Tok->List Tok->α):Eats λl=>(WU en (g l) l).bind λt r=>.ok (f t r) r:=by
 intro l x r h;obtain⟨t,q,h1,h2⟩:=PR.bind_ok h;have:=IW en l _ t q h1;cases h2
 rw[this];simp
theorem Gj (en:Int) (names:List ByteArray):Eats (X7 en names):=by
 intro l x r h;unfold X7 at h
 split at h
 ·obtain⟨t,q,h1,h2⟩:=PR.bind_ok h
  have:=IW en l _ t q h1;cases h2
  rw[this];simp
 split at h <;> cases h
theorem Ka (en:Int) (s:ByteArray):Eats (Zv en s):=by
 intro l x r h;rw[IW en l _ x r h];simp
theorem NR (en:Int):Eats (Yi en):=by
 intro l x r h;unfold Yi at h
 split at h
 ·obtain⟨t,q,h1,h2⟩:=PR.bind_ok h
  obtain⟨t2,q2,h3,h4⟩:=PR.bind_ok h2;have e1:=Ka en _ l t q h1;have e2:=IW en q _ t2 q2 h3;cases h4
  rw[e2];simp;omega
 obtain⟨t2,q2,h3,h4⟩:=PR.bind_ok h;have e2:=IW en l _ t2 q2 h3;cases h4
 rw[e2];simp
theorem ks {α:Type} (en:Int) (item:List Tok->PR α) (hi:Eats item):∀(f:Nat) (acc:List α),Eats (VV en item f acc)
 | 0,acc=>λl x r h=>by cases h
 | f+1,acc=>λl x r h=>by
   unfold VV at h
   split at h
   ·obtain⟨t,q,h1,h2⟩:=PR.bind_ok h
    obtain⟨t2,q2,h3,h4⟩:=PR.bind_ok h2;have e1:=Ka en _ l t q h1;have e2:=hi q t2 q2 h3;have e3:=ks en item hi f _ q2 x r h4;omega
   obtain⟨t,q,h1,h2⟩:=PR.bind_ok h;have e1:=Ka en _ l t q h1;cases h2
   exact e1
theorem Lx {α:Type} (en:Int) (item:List Tok->PR α) (hi:Eats item):Eats (Yf en item):=by
 intro l x r h;unfold Yf at h;obtain⟨t,q,h1,h2⟩:=PR.bind_ok h;have e1:=Ka en _ l t q h1
 split at h2
 ·obtain⟨t2,q2,h3,h4⟩:=PR.bind_ok h2
  have e2:=Ka en _ q t2 q2 h3;cases h4
  omega
 obtain⟨t2,q2,h3,h4⟩:=PR.bind_ok h2;have e2:=hi q t2 q2 h3;have e3:=ks en item hi _ _ q2 x r h4;omega
def opWL:List ByteArray:=[⟨#[]⟩,⟨#[60,61]⟩,⟨#[62,61]⟩,⟨#[61,61]⟩,⟨#[33,61]⟩]
def SY:List ByteArray:=[⟨#[97,110,121]⟩,⟨#[108,101,97,115,116]⟩,⟨#[109,111,115,116]⟩]
def WF:List ByteArray:=[⟨#[]⟩,⟨#[108,101]⟩,⟨#[101,113]⟩,⟨#[110,101]⟩,⟨#[100,105,102,102,101,114]⟩,⟨#[101,108,101,109,101,110,116]⟩,⟨#[116,97,98,108,101]⟩,⟨#[116,105,109,101,115]⟩,⟨#[109,97,120]⟩,⟨#[99,108,97,117,115,101]⟩,⟨#[105,102,102]⟩]
def litP (en:Int) (names:List ByteArray) (l:List Tok):PR MLit :=
 (X7 en names l).bind λv l=>(VJ en opWL l).bind λop l=>(Yi en l).bind λn l=>.ok ⟨v,op,n⟩ l
theorem sL (en:Int) (texts:List ByteArray):Eats (VJ en texts):=by
 intro l x r h;unfold VJ at h;obtain⟨t,q,h1,h2⟩:=PR.bind_ok h;have:=IW en l _ t q h1;cases h2
 rw[this];simp
theorem B0 (en:Int) (names:List ByteArray):Eats (litP en names):=by
 intro l x r h;unfold litP at h;obtain⟨t,q,h1,h2⟩:=PR.bind_ok h;obtain⟨t2,q2,h3,h4⟩:=PR.bind_ok h2;obtain⟨t3,q3,h5,h6⟩:=PR.bind_ok h4;have e1:=Gj en names l t q h1;have e2:=sL en opWL q t2 q2 h3;have e3:=NR en q2 t3 q3 h5;cases h6
 omega
def varW:ByteArray:=⟨#[118,97,114]⟩
def colW:ByteArray:=⟨#[58]⟩
def TR:ByteArray:=⟨#[46,46]⟩
def YV:ByteArray:=⟨#[59]⟩
def conW:ByteArray:=⟨#[99,111,110]⟩
def Oz:ByteArray:=⟨#[115,111,108,118,101]⟩
def PX (en:Int) (l:List Tok):PR MVar :=
 (Zv en varW l).bind λ_ l=>(OA en l).bind λn l=>(Zv en colW l).bind λ_ l=>(Yi en l).bind λlo l=>(Zv en TR l).bind λ_ l=>(Yi en l).bind λhi l=>(Zv en YV l).bind λ_ l=>.ok ⟨n,lo,hi⟩ l
def J_ (en:Int) (names:List ByteArray) (l:List Tok):PR (Int×Int) :=
 (Zv en Oz l).bind λ_ l=>(VJ en SY l).bind λg l =>
   if g=0 then (Zv en YV l).bind λ_ l=>.ok (g,0) l
   else (X7 en names l).bind λv l=>(Zv en YV l).bind λ_ l=>.ok (g,v) l
def Wn (en:Int) (names:List ByteArray) (k:Int) (l:List Tok):PR MCon :=
 if k=1∨k=2∨k=3 then (Yf en (Yi en) l).bind λcs l=>(Yf en (X7 en names) l).bind λvs l=>(Yi en l).bind λn l=>.ok ⟨k,vs,cs,n,[],[]⟩ l
 else if k=4 then (Yf en (X7 en names) l).bind λvs l=>.ok ⟨k,vs,[],0,[],[]⟩ l
 else if k=5 then (Yf en (Yi en) l).bind λcs l=>(X7 en names l).bind λa l=>(X7 en names l).bind λb l=>.ok ⟨k,[a,b],cs,0,[],[]⟩ l
 else if k=6 then (Yf en (X7 en names) l).bind λvs l=>(Yf en (Yf en (Yi en)) l).bind λrs l=>.ok ⟨k,vs,[],0,rs,[]⟩ l
 else if k=7 then (X7 en names l).bind λa l=>(X7 en names l).bind λb l=>(X7 en names l).bind λc l=>.ok ⟨k,[a,b,c],[],0,[],[]⟩ l
 else if k=8 then (X7 en names l).bind λa l=>(Yf en (X7 en names) l).bind λvs l=>.ok ⟨k,[a]++vs,[],0,[],[]⟩ l
 else if k=9 then (Yf en (litP en names) l).bind λls l=>.ok ⟨k,[],[],0,[],ls⟩ l
 else if k=10 then (X7 en names l).bind λa l=>(litP en names l).bind λt l=>.ok ⟨k,[a],[],0,[],[t]⟩ l
 else .ok ⟨k,[],[],0,[],[]⟩ l
def conP (en:Int) (names:List ByteArray) (l:List Tok):PR MCon :=
 (Zv en conW l).bind λ_ l=>(VJ en WF l).bind λk l=>(Wn en names k l).bind λc l=>(Zv en YV l).bind λ_ l=>.ok c l
def MH (en:Int):Nat->List MVar->List Tok->PR (List MVar)
 | 0,_,_=>.bad 0 0
 | f+1,acc,l=>if (ZL en l).text.toList==[118,97,114] then (PX en l).bind λv l=>MH en f (acc++[v]) l else .ok acc l
def Oy (en:Int) (names:List ByteArray):Nat->List MCon->List Tok->PR (List MCon)
 | 0,_,_=>.bad 0 0
 | f+1,acc,l=>if (ZL en l).text.toList==[99,111,110] then (conP en names l).bind λc l=>Oy en names f (acc++[c]) l else .ok acc l
def Gi (en:Int) (l:List Tok):PR Mod :=
 (MH en (l.length+1) [] l).bind λvs l=>(Oy en (vs.map MVar.name) (l.length+1) [] l).bind λcs l=>(J_ en (vs.map MVar.name) l).bind λg l =>
   if 0<l.length then .bad (ZL en l).place 1 else .ok ⟨vs,cs,g.1,g.2⟩ l
def TArg (N:Nat) (w:World) (v:Value) (l:List Tok):Prop :=
 ∃a c,v=.slice a l.length c/\(l.length<=c/\c<=maxLen)/\(l.length<=4000/\∀t∈l,Ly t)/\∀(i:Nat) (t:Tok),l[i]? = some t->∃b off,a=some ⟨b,off,none⟩/\b<N/\w.cell? ⟨b,off+i * 3,none⟩=some (.int .i64 t.kind)/\w.cell? ⟨b,off+i * 3+1,none⟩=some (.int .i64 t.place)/\w.cell? ⟨b,off+i * 3+2,none⟩=some (.string t.text)
def Rd (N R M:Nat) (en:Int) (w:World) (l:List Tok):Prop :=
 (N<=R/\N<=w.heap.size/\M≠R)/\∃v,w.heap[R]? = some (.cells #[v,.int .i64 en,.map (some M)] 209)/\TArg N w v l
theorem TArg.old {N:Nat} {w w':World} {v:Value} {l:List Tok} (h:TArg N w v l) (hc:∀p:Addr,p.block<N->w'.cell? p=w.cell? p):TArg N w' v l:=by
 obtain⟨a,c,hv,hm,ht,hr⟩:=h;refine⟨a,c,hv,hm,ht,λi t hi=>?_⟩
 obtain⟨b,off,ha,Z7,c0,c1,c2⟩:=hr i t hi;exact⟨b,off,ha,Z7,(hc ⟨b,off+i * 3,none⟩ Z7).trans c0,(hc ⟨b,off+i * 3+1,none⟩ Z7).trans c1,(hc ⟨b,off+i * 3+2,none⟩ Z7).trans c2⟩
theorem Rd.len {N R M:Nat} {en:Int} {w:World} {l:List Tok} (h:Rd N R M en w l):l.length<=4000:=by
 obtain⟨_,v,_,_,_,_,_,ht,_⟩:=h;exact ht.1
theorem Rd.set {N R M:Nat} {en:Int} {w:World} {l:List Tok} (h:Rd N R M en w l) {p:Addr} (hp:p.block≠R) (hN:N<=p.block) (u:Value):Rd N R M en (w.setCell p u) l:=by
 obtain⟨⟨h1,h2,h3⟩,v,hR,ht⟩:=h;exact⟨⟨h1,by simpa using h2,h3⟩,v,(Below.heap_setCell _ _ _ _ (Ne.symm hp)).trans hR,ht.old λq hq=>WD (Below.heap_setCell _ _ _ _ (by omega))⟩
theorem Rd.put {N R M:Nat} {en:Int} {w:World} {l r:List Tok} {v:Value} (h:Rd N R M en w l) (hv:TArg N w v r):Rd N R M en (w.setCell ⟨R,0,none⟩ v) r:=by
 obtain⟨⟨h1,h2,h3⟩,v0,hR,_⟩:=h;refine⟨⟨h1,by simpa using h2,h3⟩,v,?_,hv.old λq hq=>WD (Below.heap_setCell _ _ _ _ (by simp only;omega))⟩
 rw[heap_setCell_same w R 0 _ _ v hR];rfl
def tokA (t:Tok):Value:=.agg #[.int .i64 t.kind,.int .i64 t.place,.string t.text]
theorem Vz (N R M:Nat) (en:Int) (w:World) (l:List Tok) (h:Rd N R M en w l) :
 Calls prog 220 #[.pointer (some ⟨R,0,none⟩)] w λe w'=>e=.returned (tokA (ZL en l))/\Bw w w':=by
 obtain⟨⟨_,J',_⟩,v,hR,a,c,rfl,hm,_,hr⟩:=h;have c0:w.cell? ⟨R,0,none⟩=some (.slice a l.length c):=by rw[Lib.cell_of_heap hR];rfl
 have c1:w.cell? ⟨R,1,none⟩=some (.int .i64 en):=by rw[Lib.cell_of_heap hR];rfl
 have Gh:R<w.heap.size:=(Z8.1 hR).1;unfold maxLen at hm;obtain⟨Y0,hm⟩:=hm;cases l with
 | nil =>
   clear hr hR;go_enter func220,ntmps220
   go_wp2
   refine bodyPost_ret (by simp[results,results220,go_sem, *];try rfl) rfl ⟨rfl,?_⟩
   exact Z4 _ _
 | cons t r =>
   obtain⟨b,off,rfl,hb,g0,g1,g2⟩:=hr 0 t rfl;simp only[SM,Wl] at g0 g1 g2;have Z3:b<w.heap.size:=by omega
   have Zr:((t :: r).length:Int)=(r.length:Int)+1:=by simp
   clear hr hR;go_enter func220,ntmps220
   go_wp2
   refine bodyPost_ret (by simp[results,results220,go_sem, *];try rfl) rfl ⟨rfl,?_⟩
   exact Z4 _ _
theorem sK (t:Tok) (w:World):Sem.run prog (Instr.field 161 (.agg #[.int .i64 t.kind,.int .i64 t.place,.string t.text]) 0) w=.ok (.int .i64 t.kind) w:=by kernel_rfl
theorem zXB (t:Tok) (w:World):Sem.run prog (Instr.field 161 (.agg #[.int .i64 t.kind,.int .i64 t.place,.string t.text]) 1) w=.ok (.int .i64 t.place) w:=by kernel_rfl
theorem PW (t:Tok) (w:World):Sem.run prog (Instr.field 161 (.agg #[.int .i64 t.kind,.int .i64 t.place,.string t.text]) 2) w=.ok (.string t.text) w:=by kernel_rfl
theorem sJ (N R M:Nat) (en er:Int) (w:World) (l:List Tok) (h:Rd N R M en w l) :
 Calls prog 224 #[.pointer (some ⟨R,0,none⟩),.int .i64 er] w λe w'=>e=.panicked [{ v:=.iface 204 (.agg #[.int .i64 (ZL en l).place,.int .i64 er]),recovered:=false }]/\Bw w w':=by
 have W9:=zXB (ZL en l);go_enter func224,ntmps224
 go_wp2_with fail
 refine (Vz N R M en _ l h).mono ?_;rintro e w1 ⟨rfl,Z5⟩;unfold tokA;go_wp2
 exact⟨rfl,rfl,Z5⟩
def Vy {α:Type} (p:PR α) (G:α->Value->World->Prop) (N R M:Nat) (en:Int) (X:Nat->Prop) (w:World) (e:Ending) (w':World):Prop :=
 match p with
 | .ok a r=>∃v,e=.returned v/\G a v w'/\Rd N R M en w' r/\Fr X w w'
 | .bad x er=>e=.panicked [{ v:=.iface 204 (.agg #[.int .i64 x,.int .i64 er]),recovered:=false }]/\Fr X w w'
theorem Rd.below {N R M:Nat} {en:Int} {w w':World} {l:List Tok} (h:Rd N R M en w l) (hb:Bw w w'):Rd N R M en w' l:=by
 obtain⟨⟨h1,h2,h3⟩,v,hR,a,c,hv,hm,ht,hr⟩:=h;have Gh:R<w.heap.size:=(Z8.1 hR).1;refine⟨⟨h1,ZT h2 hb.size,h3⟩,v,(hb.block R Gh).trans hR,a,c,hv,hm,ht,λi t hi=>?_⟩
 obtain⟨b,off,ha,Z7,c0,c1,c2⟩:=hr i t hi;have Z3:b<w.heap.size:=by omega
 exact⟨b,off,ha,Z7,(hb.cell (p:=⟨b,off+i * 3,none⟩) Z3).trans c0,(hb.cell (p:=⟨b,off+i * 3+1,none⟩) Z3).trans c1,(hb.cell (p:=⟨b,off+i * 3+2,none⟩) Z3).trans c2⟩
theorem kr {N R M B:Nat} {en:Int} {w1:World} {l r:List Tok} {v x y z:Value} {o:Obj} (h:Rd N R M en w1 l) (hv:TArg N w1 v r) (ZP:B≠R) (hN:N<=B) :
 Rd N R M en (((((w1.setCell ⟨R,0,none⟩ v).setCell ⟨B,0,none⟩ x).setCell ⟨B,1,none⟩ y).setCell ⟨B,2,none⟩ z).alloc o) r :=
 ((((h.put hv).set (p:=⟨B,0,none⟩) ZP hN _).set (p:=⟨B,1,none⟩) ZP hN _).set (p:=⟨B,2,none⟩) ZP hN _).below (Z4 _ _)
theorem kq {R:Nat} {w w1:World} {v x y z:Value} {o:Obj} (h:Bw w w1) :
 Fr (λk=>k=R) w (((((w1.setCell ⟨R,0,none⟩ v).setCell ⟨w.heap.size,0,none⟩ x).setCell ⟨w.heap.size,1,none⟩ y).setCell ⟨w.heap.size,2,none⟩ z).alloc o) :=
 (((((Fr.below (X:=λk=>k=R) h).setX (p:=⟨R,0,none⟩) rfl _).setNew (p:=⟨w.heap.size,0,none⟩) (Z2 _) _).setNew (p:=⟨w.heap.size,1,none⟩) (Z2 _) _).setNew (p:=⟨w.heap.size,2,none⟩) (Z2 _) _).alloc _
theorem MG (N R M:Nat) (en:Int) (fits:Bool) (w:World) (l:List Tok) (h:Rd N R M en w l) (hf:fits=true->l≠[]) :
 Calls prog 278 #[.pointer (some ⟨R,0,none⟩),.bool fits] w (Vy (WU en fits l) (λt v _=>v=tokA t) N R M en (λk=>k=R) w):=by
 cases fits
 ·have HB:=hI h
  go_enter func278,ntmps278
  go_wp2_with fail
  refine (sJ N R M en 1 _ l (HB.o.below (Z4 _ _))).mono ?_;rintro e w1 ⟨rfl,Z5⟩;go_wp2
  exact⟨rfl,rfl,Fr.below ((Z4 _ _).trans (Z5.mono (by simp)))⟩
 have HB:=hI h;obtain⟨t,r,rfl⟩:∃t r,l=t :: r:=by
  cases l with
  | nil=>exact absurd rfl (hf rfl)
  | cons t r=>exact⟨t,r,rfl⟩
 go_enter func278,ntmps278
 go_wp2_with fail
 refine (Vz N R M en _ (t :: r) (HB.o.below (Z4 _ _))).mono ?_;rintro e w1 ⟨rfl,Z5⟩;have Yl:Hid (Rd N R M en w1 (t :: r)):=(HB.o.below (Z4 _ _)).below Z5;obtain⟨⟨_,J',_⟩,v,hR,a,c,rfl,hm,ht,hr⟩:=Yl.o;have c0:w1.cell? ⟨R,0,none⟩=some (.slice a (t :: r).length c):=by rw[Lib.cell_of_heap hR];rfl
 have Gh:R<w1.heap.size:=(Z8.1 hR).1;have z0:w1.frozen? ⟨R,0,none⟩=false:=by unfold World.frozen?;simp only[hR];simp
 obtain⟨b,off,rfl,hb,_,_,_⟩:=hr 0 t rfl;unfold maxLen at hm;obtain⟨Y0,hm⟩:=hm;have ZU:Hid (Bw w w1):=(Z4 _ _).trans (Z5.mono (by simp))
 have HW:w1.heap[w.heap.size]? = some (.cells #[.int .i64 0,.int .i64 0,.string ⟨#[]⟩] 161):=(Z5.block _ (by simp)).trans (by show (w.heap.push _)[w.heap.size]? = _;simp)
 have d0:w1.cell? ⟨w.heap.size,0,none⟩=some (.int .i64 0):=by rw[Lib.cell_of_heap HW];rfl
 have d1:w1.cell? ⟨w.heap.size,1,none⟩=some (.int .i64 0):=by rw[Lib.cell_of_heap HW];rfl
 have d2:w1.cell? ⟨w.heap.size,2,none⟩=some (.string ⟨#[]⟩):=by rw[Lib.cell_of_heap HW];rfl
 have y0:w1.frozen? ⟨w.heap.size,0,none⟩=false:=by unfold World.frozen?;simp only[HW];simp
 have y1:w1.frozen? ⟨w.heap.size,1,none⟩=false:=by unfold World.frozen?;simp only[HW];simp
 have y2:w1.frozen? ⟨w.heap.size,2,none⟩=false:=by unfold World.frozen?;simp only[HW];simp
 have de:w.heap.size<w1.heap.size:=(Z8.1 HW).1;have KD:N<=w.heap.size:=HB.o.1.2.1;have ZP:w.heap.size≠R:=by obtain⟨_,_,hR0,_⟩:=HB.o;have:=(Z8.1 hR0).1;omega
 unfold tokA;simp only[ZL];clear hr hR ht Z5 hf h HW;go_wp2
 ·have QO:r=[]:=by
   rcases r with _ | ⟨x,r⟩
   ·rfl
   simp at Y0;omega
  have HT:TArg N w1 (.slice (some ⟨b,off,none⟩) r.length 0) r:=by
   subst QO;exact⟨_,_,rfl,⟨Z2 _,YI _⟩,⟨by simp,λt ht=>by (cases ht)⟩,λi t hi=>by (simp at hi)⟩
  refine bodyPost_ret (by simp[results,results278,go_sem, *];try rfl) rfl ?_
  exact⟨_,rfl,rfl,kr Yl.o HT ZP KD,kq ZU.o⟩
 have HT:TArg N w1 (.slice (some ⟨b,off+3,none⟩) r.length (c - 1)) r:=by
  obtain⟨_,v2,Tk,a2,c2,hv2,Wk,ht2,Yq⟩:=Yl.o;have Gg:v2=.slice (some ⟨b,off,none⟩) (t :: r).length c:=by
   have h1:=c0;rw[Lib.cell_of_heap Tk] at h1;exact Zl h1
  rw[hv2] at Gg;simp only[Value.slice.injEq] at Gg;obtain⟨rfl,_,rfl⟩:=Gg;refine⟨_,_,rfl,⟨by simp at Y0;omega,by unfold maxLen;omega⟩,⟨by have:=ht2.1;simp at this;omega,λx hx=>ht2.2 x (Y2 _ hx)⟩,λi x hi=>?_⟩
  obtain⟨b',off',ha,Z7,q0,q1,q2⟩:=Yq (i+1) x (by simpa using hi)
  simp only[Option.some.injEq,Addr.mk.injEq,and_true] at ha;obtain⟨rfl,rfl⟩:=ha;refine⟨_,_,rfl,Z7,?_,?_,?_⟩
  ·rw[show off+3+i * 3=off+(i+1) * 3 by omega];exact q0
  ·rw[show off+3+i * 3=off+(i+1) * 3 by omega];exact q1
  rw[show off+3+i * 3=off+(i+1) * 3 by omega];exact q2
 refine bodyPost_ret (by simp[results,results278,go_sem, *];try rfl) rfl ?_
 exact⟨_,rfl,rfl,kr Yl.o HT ZP KD,kq ZU.o⟩
end Go.Proofs.YtndcpnlaadikoaaGreatDoor
