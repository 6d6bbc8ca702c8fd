/- What the proof leans on, part 34. -/
import Derived.Test.YtndcpnlaadikoaaGreatDoorPartBg
import Derived.Test.YtndcpnlaadikoaaGreatDoorPartBc
import Derived.Test.YtndcpnlaadikoaaGreatDoorPartAc
import Derived.Deep.RegionHeld3
import Derived.Test.YtndcpnlaadikoaaGreatDoorPartAt
import Derived.Deep.DeepCutAuto
import Derived.Deep.RegionLaw
import Derived.Test.YtndcpnlaadikoaaGreatDoorPartBe
namespace Go.Proofs.YtndcpnlaadikoaaGreatDoor
open Go.RowKit
def rngI (n:Nat):List Int:=(List.range n).map fun (k:Nat)=>(k:Int)
theorem zG4 (n:Nat):(rngI n).length=n:=by simp[rngI]
theorem zMu (n k:Nat) (h:k<n):(rngI n)[k]? = some (k:Int):=by simp[rngI,h]
def zCb (c:MCon) (v:Int):Bool:=(c.vars.any fun z=>z==v) || (c.lits.any fun l=>l.var==v)
def zBC (n:Nat) (c:MCon):List Int:=(rngI n).filter (zCb c)
theorem zJj {α:Type} (p:α→Bool) (l:List α) (i:Nat) (z:α) (h:l[i]? = some z):(l.take (i+1)).any p=((l.take i).any p || p z):=by
 rw[List.take_add_one,h];simp
set_option maxHeartbeats 3200000 in
set_option maxRecDepth 100000 in
theorem zKa (m:Mod) (c:MCon) (vs cs vv vc vr vl:Value) (w:World) (h6:m.vars.length≤6) (hma:MArg w vs cs m) (hk:KArg w vv vc vr vl c) :
 Calls Tryz.prog 156 #[modV vs cs m,conV vv vc vr vl c] w fun e w'=>∃x,e=.returned x∧IArg w' x (zBC m.vars.length c)∧Below w.heap.size w w':=by
 have HKA:Hid (∀w':World,Below w.heap.size w w'→KArg w' vv vc vr vl c):=fun w' h=>KArg.below h hk
 obtain⟨⟨a1,c1,rfl,hm1,_⟩,⟨a0,c0,rfl,_,_⟩⟩:=hma
 obtain⟨⟨a2,c2,rfl,hm2,_⟩,⟨a3,c3,rfl,hm3,_⟩,⟨a4,c4,rfl,hm4,_⟩,⟨a5,c5,rfl,hm5,_⟩⟩:=hk
 unfold maxLen at hm1 hm2 hm3 hm4 hm5
 obtain⟨hm11,hm1⟩:=hm1
 obtain⟨hm21,hm2⟩:=hm2
 obtain⟨hm31,hm3⟩:=hm3
 obtain⟨hm41,hm4⟩:=hm4
 obtain⟨hm51,hm5⟩:=hm5
 obtain⟨i0,hi,hz0,hz1,hz2⟩:=info_parts Tryz.infoInt
 unfold modV conV
 go_enter Tryz.func156,Tryz.ntmps156
 go_wp2_with fail
 have HB0:Hid (Below w.heap.size w ((w.alloc (.cells #[.slice a1 m.vars.length c1,.slice a0 m.cons.length c0,.int .i64 m.goal,.int .i64 m.var] 25)).alloc (.cells #[.int .i64 c.kind,.slice a2 c.vars.length c2,.slice a3 c.consts.length c3,.int .i64 c.n,.slice a4 c.rows.length c4,.slice a5 c.lits.length c5] 69))):=(zAA _ _).trans ((zAA _ _).mono (by simp))
 have HN0:Hid (((w.alloc (.cells #[.slice a1 m.vars.length c1,.slice a0 m.cons.length c0,.int .i64 m.goal,.int .i64 m.var] 25)).alloc (.cells #[.int .i64 c.kind,.slice a2 c.vars.length c2,.slice a3 c.consts.length c3,.int .i64 c.n,.slice a4 c.rows.length c4,.slice a5 c.lits.length c5] 69)).heap[w.heap.size]? = some (.cells #[.slice a1 m.vars.length c1,.slice a0 m.cons.length c0,.int .i64 m.goal,.int .i64 m.var] 25)):=((zAA _ _).block _ (by simp)).trans (heap_alloc_new _ _)
 have HN1:Hid (((w.alloc (.cells #[.slice a1 m.vars.length c1,.slice a0 m.cons.length c0,.int .i64 m.goal,.int .i64 m.var] 25)).alloc (.cells #[.int .i64 c.kind,.slice a2 c.vars.length c2,.slice a3 c.consts.length c3,.int .i64 c.n,.slice a4 c.rows.length c4,.slice a5 c.lits.length c5] 69)).heap[w.heap.size+1]? = some (.cells #[.int .i64 c.kind,.slice a2 c.vars.length c2,.slice a3 c.consts.length c3,.int .i64 c.n,.slice a4 c.rows.length c4,.slice a5 c.lits.length c5] 69)):=by
  have h:=heap_alloc_new (w.alloc (.cells #[.slice a1 m.vars.length c1,.slice a0 m.cons.length c0,.int .i64 m.goal,.int .i64 m.var] 25)) (.cells #[.int .i64 c.kind,.slice a2 c.vars.length c2,.slice a3 c.consts.length c3,.int .i64 c.n,.slice a4 c.rows.length c4,.slice a5 c.lits.length c5] 69)
  rw[show (w.alloc (.cells #[.slice a1 m.vars.length c1,.slice a0 m.cons.length c0,.int .i64 m.goal,.int .i64 m.var] 25)).heap.size=w.heap.size+1 by simp] at h
  exact h
 obtain⟨W,hW⟩:∃W,(w.alloc (.cells #[.slice a1 m.vars.length c1,.slice a0 m.cons.length c0,.int .i64 m.goal,.int .i64 m.var] 25)).alloc (.cells #[.int .i64 c.kind,.slice a2 c.vars.length c2,.slice a3 c.consts.length c3,.int .i64 c.n,.slice a4 c.rows.length c4,.slice a5 c.lits.length c5] 69)=W:=⟨_,rfl⟩
 rw[hW] at HB0 HN0 HN1 ⊢
 clear hW
 have HC:Hid (∀Y,Below W.heap.size W Y→w.heap.size+1<Y.heap.size∧Y.cell? ⟨w.heap.size,0,none⟩=some (.slice a1 m.vars.length c1)∧Y.cell? ⟨w.heap.size+1,1,none⟩=some (.slice a2 c.vars.length c2)∧Y.cell? ⟨w.heap.size+1,5,none⟩=some (.slice a5 c.lits.length c5)∧Below w.heap.size w Y):=fun Y hY=>by
  have hN:=(hY.block _ (Array.getElem?_eq_some_iff.1 HN0.out).1).trans HN0.out
  have hM:=(hY.block _ (Array.getElem?_eq_some_iff.1 HN1.out).1).trans HN1.out
  exact⟨(Array.getElem?_eq_some_iff.1 hM).1,blk9 hN 0 _ rfl,blk9 hM 1 _ rfl,blk9 hM 5 _ rfl,HB0.out.trans (hY.mono HB0.out.size)⟩
 obtain⟨n,hn⟩:∃n,m.vars.length=n:=⟨_,rfl⟩
 have HNN:Hid (m.vars.length=n):=hn
 rw[hn] at h6 hm11 HC ⊢
 clear hn HN0 HN1
 go_loopw [5,6,7,8,9] (fun o i _ _ _ wr=>∃k:Nat,k≤n∧i=.int .i64 k∧wr.ownsRow W.heap.size 3 1 o (((rngI n).take k).filter (zCb c)).length ((((rngI n).take k).filter (zCb c)).map (Value.int .i64))∧Below W.heap.size W wr) (fun _ i _ _ _ _=>n - (intOf i).toNat)
 case atStart=>exact⟨0,by omega,rfl,World.ownsRow_nil _ _ _ _,Below.refl _ _⟩
 case round =>
  obtain⟨k,hk,rfl,hown,hbw⟩:=hrel
  obtain⟨acc,hacc⟩:∃acc,((rngI n).take k).filter (zCb c)=acc:=⟨_,rfl⟩
  have HAC:Hid (((rngI n).take k).filter (zCb c)=acc):=hacc
  have hal:acc.length≤6:=by rw[←hacc];exact Nat.le_trans (List.length_filter_le _ _) (by rw[List.length_take,zG4];omega)
  rw[hacc] at hown
  have HOW:Hid (wr.ownsRow W.heap.size 3 1 u5 acc.length (acc.map (Value.int .i64))):=hown
  have HBW:Hid (Below W.heap.size W wr):=hbw
  obtain⟨ao,co,hof⟩:=zAE hown
  subst hof
  obtain⟨l0,q0,q1,q5,hbn⟩:=HC.out _ hbw
  have HBN:Hid (Below w.heap.size w wr):=hbn
  clear hacc hbw hbn
  by_cases hlt:k<n
  ·have HNX:Hid (((rngI n).take (k+1)).filter (zCb c)=acc++if zCb c (k:Int) then [(k:Int)] else []):=by show _=_;rw[←HAC.out];exact zC4 _ _ k _ (zMu n k hlt)
   have HIV:Hid (∀(i:Nat) (z:Int),c.vars[i]? = some z→∃b off,a2=some ⟨b,off,none⟩∧b<wr.heap.size∧wr.cell? ⟨b,off+i,none⟩=some (.int .i64 z)):=fun i z h=>by
    obtain⟨_,_,hs1,_,hr1⟩:=(HKA.out _ HBN.out).1
    cases hs1
    exact hr1 i z h
   have HIL:Hid (∀(i:Nat) (t:MLit),c.lits[i]? = some t→∃b off,a5=some ⟨b,off,none⟩∧b<wr.heap.size∧wr.cell? ⟨b,off+i * 3,none⟩=some (.int .i64 t.var)):=fun i t h=>by
    obtain⟨b,off,h1,h2,h3,_⟩:=LArg.nth (HKA.out _ HBN.out).2.2.2 i t h
    exact⟨b,off,h1,h2,h3⟩
   clear hown
   obtain⟨wx,hwx⟩:∃wx:World,wx=wr:=⟨_,rfl⟩
   go_wp2_with fail
   rw[←hwx] at HOW HBW HBN HIV HIL l0 q0 q1 q5 ⊢
   clear hwx
   go_loopw [7,8] (fun is i wr=>∃(j:Nat) (B:Bool),j≤c.vars.length∧i=.int .i64 j∧is=.bool B∧Hid (B=(c.vars.take j).any fun z=>z==(k:Int))∧wr=wx) (fun _ i _=>c.vars.length - (intOf i).toNat)
   case atStart=>exact⟨0,false,by omega,rfl,rfl,rfl,rfl⟩
   case round =>
    obtain⟨j,B,hj,rfl,rfl,hB,rfl⟩:=hrel
    by_cases hlj:j<c.vars.length
    ·obtain⟨z,hz⟩:∃z,c.vars[j]? = some z:=⟨c.vars[j],by simp[hlj]⟩
     obtain⟨b,off,hb,hbl,hc⟩:=HIV.out j z hz
     subst hb
     have HT:Hid (((c.vars.take (j+1)).any fun z=>z==(k:Int))=(B || (z==(k:Int)))):=by show _=_;rw[zJj _ _ _ _ hz,←hB.out]
     clear hz hB
     cases B
     ·cases hq:(z==(k:Int))
      all_goals
       rw[hq] at HT
       go_wp2
       go_roundw
       case rel=>exact⟨j+1,_,by omega,by go_num,rfl,HT.out.symm,trivial⟩
       case measure=>simp[intOf];omega
     ·go_wp2
      go_roundw
      case rel=>exact⟨j+1,true,by omega,by go_num,rfl,by show _=_;rw[HT.out];rfl,trivial⟩
      case measure=>simp[intOf];omega
    ·have HB1:Hid (B=c.vars.any fun z=>z==(k:Int)):=by show _=_;rw[hB.out,List.take_of_length_le (by omega)]
     clear hB
     obtain⟨wr0,hwr0⟩:∃wr0:World,wr0=wr:=⟨_,rfl⟩
     go_wp2_with fail
     rw[←hwr0] at HOW HBW HBN HIV HIL l0 q0 q1 q5 ⊢
     clear hwr0
     go_loopw [7,9] (fun is i wr=>∃(j:Nat) (A:Bool),j≤c.lits.length∧i=.int .i64 j∧is=.bool A∧Hid (A=(B || (c.lits.take j).any fun l=>l.var==(k:Int)))∧wr=wr0) (fun _ i _=>c.lits.length - (intOf i).toNat)
     case atStart=>exact⟨0,B,by omega,rfl,rfl,by show _=_;simp,rfl⟩
     case round =>
      obtain⟨j2,A,hj2,rfl,rfl,hA,rfl⟩:=hrel
      by_cases hlj2:j2<c.lits.length
      ·obtain⟨z,hz⟩:∃z,c.lits[j2]? = some z:=⟨c.lits[j2],by simp[hlj2]⟩
       obtain⟨b,off,hb,hbl,hc⟩:=HIL.out j2 z hz
       subst hb
       have HT:Hid ((B || (c.lits.take (j2+1)).any fun l=>l.var==(k:Int))=(A || (z.var==(k:Int)))):=by show _=_;rw[zJj _ _ _ _ hz,hA.out,Bool.or_assoc]
       clear hz hA
       cases A
       ·cases hq:(z.var==(k:Int))
        all_goals
         rw[hq] at HT
         go_wp2
         go_roundw
         case rel=>exact⟨j2+1,_,by omega,by go_num,rfl,HT.out.symm,trivial⟩
         case measure=>simp[intOf];omega
       ·go_wp2
        go_roundw
        case rel=>exact⟨j2+1,true,by omega,by go_num,rfl,by show _=_;rw[HT.out];rfl,trivial⟩
        case measure=>simp[intOf];omega
      ·have HA1:Hid (A=zCb c (k:Int)):=by show _=_;rw[hA.out,HB1.out,List.take_of_length_le (by omega)];rfl
       clear hA
       rw[←HA1.out] at HNX
       have hown:=HOW.out
       cases A
       ·have HT2:Hid (((rngI n).take (k+1)).filter (zCb c)=acc):=by show _=_;rw[HNX.out];simp
        clear HNX HA1 hown
        go_wp2
        go_roundw
        case rel=>exact⟨k+1,by omega,by go_num,by rw[HT2.out];exact HOW.out,HBW.out⟩
        case measure=>simp[intOf];omega
       ·have HT2:Hid (((rngI n).take (k+1)).filter (zCb c)=acc++[(k:Int)]):=by show _=_;rw[HNX.out];simp
        clear HNX HA1
        go_wp2_with (at_builtin;refine wpList_append_own _ rfl _ _ 42 rfl W.heap.size 3 i0 (.int .i64 0) 1 8 Tryz.underlying42 hi hz0 hz1 hz2 rfl (by decide) _ _ _ rfl (hown.alloc _) ⟨wr.heap.size,0,none⟩ 1 1 [.int .i64 (k:Int)] rfl rfl ?c1 ?c2 ?c3 ?c4 ?c5 ?_)
        case c1=>exact zC0 wr (k:Int)
        case c2=>intro u hu;rcases List.mem_singleton.1 hu with rfl;rfl
        case c3=>unfold maxLen;omega
        case c4=>omega
        case c5=>have:=HBW.out.size;simp;omega
        intro v3 w3 hown3 hgrow _
        have HO3:Hid (w3.ownsRow W.heap.size 3 1 v3 (((rngI n).take (k+1)).filter (zCb c)).length ((((rngI n).take (k+1)).filter (zCb c)).map (Value.int .i64))):=by
         show w3.ownsRow _ _ _ _ _ _
         rw[HT2.out,List.length_append,List.map_append];exact hown3
        have HB3:Hid (Below W.heap.size W w3):=(HBW.out.alloc HBW.out.size _).grown hgrow (by have:=HBW.out.size;simp;omega) (fun g h=>(hown.lt g h).1)
        clear hown3 hgrow hown
        go_wp2
        go_roundw
        case rel=>exact⟨k+1,by omega,by go_num,HO3.out,HB3.out⟩
        case measure=>simp[intOf];omega
  ·have HF:Hid (IArg wr (.slice ao acc.length co) (zBC n c)∧Below w.heap.size w wr):=by
    refine⟨?_,HBN.out⟩
    have:acc=zBC n c:=by rw[←HAC.out,List.take_of_length_le (by rw[zG4];omega)];rfl
    rw[←this]
    exact zCW HOW.out
   clear hown
   go_wp2
   go_ret
   exact⟨.slice ao acc.length co,rfl,by rw[HNN.out];exact HF.out.1,HF.out.2⟩
theorem RArg.at {w:World} {a:Option Addr} {n c:Nat} {l:List (List Int)} (h:RArg w (.slice a n c) l) (i:Nat) (r:List Int) (hr:l[i]? = some r):∃b off x,a=some ⟨b,off,none⟩∧b<w.heap.size∧w.cell? ⟨b,off+i,none⟩=some x∧IArg w x r:=by
 obtain⟨a',c',hv,_,hh⟩:=h
 cases hv
 exact hh i r hr
def chN (s:Sto):List Int→List Int→Nat→List Int×Nat
 | [],vals,n=>(vals,n)
 | v :: r,vals,n=>chN s r (vals.set v.toNat ((s.getD v.toNat []).getD (n % (s.getD v.toNat []).length) 0)) (n / (s.getD v.toNat []).length)
theorem zMv (s:Sto) (vars vals:List Int) (n k y:Nat) (r:List Int) (z:Int) (hy:vars[k]? = some (y:Int)) (hr:s[y]? = some r) (hz:r[n % r.length]? = some z) :
 chN s (vars.drop k) vals n=chN s (vars.drop (k+1)) (vals.set y z) (n / r.length):=by
 have hk:=(List.getElem?_eq_some_iff.1 hy).1
 have e:vars[k]=(y:Int):=by rw[List.getElem?_eq_getElem hk] at hy;exact Option.some.inj hy
 have hd:List.getD s y []=r:=by rw[List.getD_eq_getElem?_getD,hr];rfl
 have hw:r.getD (n % r.length) 0=z:=by rw[List.getD_eq_getElem?_getD,hz];rfl
 have h:chN s ((y:Int) :: vars.drop (k+1)) vals n=chN s (vars.drop (k+1)) (vals.set (y:Int).toNat ((s.getD (y:Int).toNat []).getD (n % (s.getD (y:Int).toNat []).length) 0)) (n / (s.getD (y:Int).toNat []).length):=rfl
 rw[List.drop_eq_getElem_cons hk,e,h,Int.toNat_natCast,hd,hw]
set_option maxHeartbeats 3200000 in
set_option maxRecDepth 100000 in
theorem zKb (s:Sto) (vars vals:List Int) (n V cap:Nat) (sv vv:Value) (W w:World) (hs:RArg W sv s) (hv:IArg W vv vars) (hB:Below W.heap.size W w)
 (hrow:w.ownsRow W.heap.size 3 1 (.slice (some ⟨V,0,none⟩) s.length cap) s.length (vals.map (Value.int .i64))) (hin:∀x∈vars,0≤x∧x<(s.length:Int)) (hne:∀r∈s,r≠[]) (hn:n≤1000000000) :
 Calls Tryz.prog 158 #[sv,vv,.slice (some ⟨V,0,none⟩) s.length cap,.int .i64 (n:Int)] w fun e w'=>e=.returned (.bool ((chN s vars vals n).2==0)) ∧
  w'.ownsRow W.heap.size 3 1 (.slice (some ⟨V,0,none⟩) s.length cap) s.length ((chN s vars vals n).1.map (Value.int .i64))∧Fr (fun k=>k=V) w w':=by
 have HS:Hid (RArg W sv s):=hs
 have HV:Hid (IArg W vv vars):=hv
 obtain⟨a1,c1,rfl,hm1,_⟩:=hs
 obtain⟨a2,c2,rfl,hm2,_⟩:=hv
 unfold maxLen at hm1 hm2
 obtain⟨hm11,hm1⟩:=hm1
 obtain⟨hm21,hm2⟩:=hm2
 obtain⟨R,hR⟩:∃R,chN s vars vals n=R:=⟨_,rfl⟩
 rw[hR]
 have HR:Hid (chN s (vars.drop 0) vals n=R):=hR
 have HB:Hid (Below W.heap.size W w):=hB
 have HVB:Hid (W.heap.size≤V):=(hrow.lt V rfl).1
 have HRO:Hid (w.ownsRow W.heap.size 3 1 (.slice (some ⟨V,0,none⟩) s.length cap) s.length (vals.map (Value.int .i64))):=hrow
 have HIN:Hid (∀x∈vars,0≤x∧x<(s.length:Int)):=hin
 have HNE:Hid (∀r∈s,r≠[]):=hne
 clear hR hB hrow hin hne
 go_enter Tryz.func158,Tryz.ntmps158
 go_wp2_with fail
 go_loopw [3,9,10] (fun nv i _ wr=>∃(k q:Nat) (vs:List Int),k≤vars.length∧q≤1000000000∧i=.int .i64 k∧nv=.int .i64 q∧Hid (chN s (vars.drop k) vs q=R) ∧
  wr.ownsRow W.heap.size 3 1 (.slice (some ⟨V,0,none⟩) s.length cap) s.length (vs.map (Value.int .i64))∧Fr (fun k=>k=V) w wr) (fun _ i _ _=>vars.length - (intOf i).toNat)
 case atStart=>exact⟨0,n,vals,by omega,hn,rfl,rfl,HR,HRO.out,Fr.refl _ _⟩
 case round =>
  obtain⟨k,q,vs,hk,hq,rfl,rfl,hch,hrow,hfr⟩:=hrel
  have HRW:Hid (wr.ownsRow W.heap.size 3 1 (.slice (some ⟨V,0,none⟩) s.length cap) s.length (vs.map (Value.int .i64))):=hrow
  have HFR:Hid (Fr (fun k=>k=V) w wr):=hfr
  have HC:Hid (∀p:Addr,p.block<W.heap.size→p.block<wr.heap.size∧wr.cell? p=W.cell? p):=fun p hp=>by
   have h1:p.block<w.heap.size:=Nat.lt_of_lt_of_le hp HB.out.size
   have:=HVB.out
   exact⟨Nat.lt_of_lt_of_le h1 HFR.out.size,(HFR.out.cell h1 (by omega)).trans (HB.out.cell hp)⟩
  clear hfr
  by_cases hlt:k<vars.length
  ·obtain⟨x,hx⟩:∃x,vars[k]? = some x:=⟨vars[k],by simp[hlt]⟩
   obtain⟨hx0,hx1⟩:=HIN.out x (List.mem_of_getElem? hx)
   obtain⟨y,rfl⟩:∃y:Nat,x=(y:Int):=⟨x.toNat,by omega⟩
   have hyl:y<s.length:=by omega
   obtain⟨r,hr⟩:∃r,s[y]? = some r:=⟨s[y],by simp[hyl]⟩
   have hr0:0<r.length:=by
    have:=HNE.out r (List.mem_of_getElem? hr)
    exact List.length_pos_iff.2 this
   obtain⟨p,hp⟩:∃p,q % r.length=p:=⟨_,rfl⟩
   have hpl:p<r.length:=by rw[←hp];exact Nat.mod_lt _ hr0
   obtain⟨d,hd⟩:∃d,q / r.length=d:=⟨_,rfl⟩
   have hdq:d≤q:=by rw[←hd];exact Nat.div_le_self _ _
   obtain⟨z,hz⟩:∃z,r[p]? = some z:=⟨r[p],by simp[hpl]⟩
   have HN:Hid (chN s (vars.drop (k+1)) (vs.set y z) d=R):=by
    have h:=zMv s vars vs q k y r z hx hr (by rw[hp];exact hz)
    rw[hd] at h
    exact h.symm.trans hch.out
   have h3:(q:Int).tdiv (r.length:Int)=(d:Int):=by rw[←hd];rfl
   have h4:(q:Int).tmod (r.length:Int)=(p:Int):=by rw[←hp];rfl
   have h0:((r.length:Int)==0)=false:=by simp only[beq_eq_false_iff_ne,ne_eq];omega
   have h0':¬((r.length:Int)=0):=by omega
   have h0a:¬(r=[]):=fun h=>by rw[h] at hr0;simp at hr0
   have h0b:¬(r.length=0):=by omega
   have h0c:¬((r.length:Int)=-1):=by omega
   have h0d:((r.length:Int)==-1)=false:=by simp only[beq_eq_false_iff_ne,ne_eq];omega
   obtain⟨_,_,hs2,_,hr2⟩:=HV.out
   cases hs2
   obtain⟨b2,o2,hb2,hbl2,e2⟩:=hr2 k _ hx
   subst hb2
   obtain⟨b1,o1,xv,hb1,hbl1,e1,hxi⟩:=RArg.at HS.out y r hr
   subst hb1
   obtain⟨a5,c5,rfl,hm5,hr5⟩:=hxi
   obtain⟨b5,o5,hb5,hbl5,e5⟩:=hr5 p z hz
   subst hb5
   unfold maxLen at hm5
   obtain⟨hm51,hm5⟩:=hm5
   obtain⟨l2,f2⟩:=HC.out ⟨b2,o2+k,none⟩ hbl2
   obtain⟨l1,f1⟩:=HC.out ⟨b1,o1+y,none⟩ hbl1
   obtain⟨l5,f5⟩:=HC.out ⟨b5,o5+p,none⟩ hbl5
   rw[e2] at f2
   rw[e1] at f1
   rw[e5] at f5
   have hvl:vs.length=s.length:=by have:=hrow.1;simpa using this
   have hcv:wr.frozen? ⟨V,y,none⟩=false:=hrow.frozenAt y
   have lV:V<wr.heap.size:=(hrow.lt V rfl).2
   obtain⟨z0,hz0⟩:∃z0,vs[y]? = some z0:=⟨vs[y]'(by omega),by rw[List.getElem?_eq_getElem (by omega)]⟩
   have hc0:wr.cell? ⟨V,y,none⟩=some (.int .i64 z0):=by rw[hrow.cellAt y (by omega),List.getElem?_map,hz0];rfl
   have HST:Hid (((wr.setCell ⟨V,y,none⟩ (.int .i64 z)).drew).ownsRow W.heap.size 3 1 (.slice (some ⟨V,0,none⟩) s.length cap) s.length ((vs.set y z).map (Value.int .i64))∧Fr (fun k=>k=V) w ((wr.setCell ⟨V,y,none⟩ (.int .i64 z)).drew)):=by
    refine⟨?_,(HFR.out.setX (p:=⟨V,y,none⟩) rfl _).trans (Fr.below (Below.refl _ _).drew)⟩
    have h:=(HRW.out.stored y (.int .i64 z)).1
    rw[←List.map_set] at h
    exact zAD h (Below.refl _ _).drew
   clear hx hr hz hp hd hz0 hr2 hr5 e1 e2 e5 hbl1 hbl2 hbl5 hrow hch hvl
   go_wp2_with fail
   go_cut [] (fun wx=>Hid (wx.ownsRow W.heap.size 3 1 (.slice (some ⟨V,0,none⟩) s.length cap) s.length ((vs.set y z).map (Value.int .i64))∧Fr (fun k=>k=V) w wx))
   case first =>
    go_region_law (fail)
    all_goals (go_wp2_with fail;go_meet)
    all_goals exact HST.out
   case rest =>
    have HS2:Hid (wc.ownsRow W.heap.size 3 1 (.slice (some ⟨V,0,none⟩) s.length cap) s.length ((vs.set y z).map (Value.int .i64))∧Fr (fun k=>k=V) w wc):=hcut
    clear hcut HST f1 f2 f5 l1 l2 l5 hc0 hcv lV
    go_wp2
    go_roundw
    case rel=>exact⟨k+1,d,vs.set y z,by omega,by omega,by go_num,rfl,HN,HS2.out.1,HS2.out.2⟩
    case measure=>simp[intOf];omega
  ·have HE:Hid (R=(vs,q)):=by show _=_;rw[←hch.out,List.drop_of_length_le (by omega)];rfl
   clear hrow hch
   cases h0:((q:Int)==0)
   all_goals
    go_wp2
    go_ret
    refine⟨?_,by rw[HE.out];exact HRW.out,HFR.out⟩
    rw[HE.out]
    simp at h0
    simp[h0]
def zH4 (x y:MLit):Bool:=y.var==x.var&&y.op==x.op&&y.n==x.n
def hasT (l:List MLit) (x:MLit):Bool:=l.any (zH4 x)
theorem zFd (x y:MLit):zH4 x y=true↔y=x:=by
 obtain⟨a,b,c⟩:=x
 obtain⟨d,e,f⟩:=y
 simp[zH4]
 exact and_assoc
theorem zJk (l:List MLit) (x:MLit):hasT l x=true↔x∈l:=by
 unfold hasT
 rw[List.any_eq_true]
 constructor
 ·rintro ⟨y,hy,h⟩
  rw[(zFd x y).1 h] at hy
  exact hy
 ·intro h
  exact⟨x,h,(zFd x x).2 rfl⟩
set_option maxHeartbeats 1600000 in
set_option maxRecDepth 100000 in
theorem zGU (l:List MLit) (x:MLit) (v:Value) (w:World) (hv:LArg w v l) :
 Calls Tryz.prog 159 #[v,.agg #[.int .i64 x.var,.int .i64 x.op,.int .i64 x.n]] w fun e w'=>e=.returned (.bool (hasT l x))∧Below w.heap.size w w':=by
 have HA:Hid (LArg w v l):=hv
 obtain⟨a,c,rfl,hm,_⟩:=hv
 unfold maxLen at hm
 obtain⟨hm1,hm⟩:=hm
 obtain⟨R,hR⟩:∃R,hasT l x=R:=⟨_,rfl⟩
 rw[hR]
 have HR:Hid (l.any (zH4 x)=R):=hR
 clear hR
 obtain⟨x0,x1,x2⟩:=x
 dsimp only
 go_enter Tryz.func159,Tryz.ntmps159
 go_wp2_with fail
 have hB:Below w.heap.size w (w.alloc (.cells #[.int .i64 x0,.int .i64 x1,.int .i64 x2] 76)):=zAA _ _
 have k0:(w.alloc (.cells #[.int .i64 x0,.int .i64 x1,.int .i64 x2] 76)).cell? ⟨w.heap.size,0,none⟩=some (.int .i64 x0):=World.cell?_alloc_at _ _ _ 0 (by simp)
 have k1:(w.alloc (.cells #[.int .i64 x0,.int .i64 x1,.int .i64 x2] 76)).cell? ⟨w.heap.size,1,none⟩=some (.int .i64 x1):=World.cell?_alloc_at _ _ _ 1 (by simp)
 have k2:(w.alloc (.cells #[.int .i64 x0,.int .i64 x1,.int .i64 x2] 76)).cell? ⟨w.heap.size,2,none⟩=some (.int .i64 x2):=World.cell?_alloc_at _ _ _ 2 (by simp)
 have hz:w.heap.size<(w.alloc (.cells #[.int .i64 x0,.int .i64 x1,.int .i64 x2] 76)).heap.size:=by simp
 generalize w.alloc (.cells #[.int .i64 x0,.int .i64 x1,.int .i64 x2] 76)=W at hB k0 k1 k2 hz ⊢
 replace HA:Hid (LArg W (.slice a l.length c) l):=HA.out.below hB
 have HB:Hid (Below w.heap.size w W):=hB
 clear hB
 go_loopw [5] (fun i wr=>∃m:Nat,m≤l.length∧i=.int .i64 m∧Hid ((l.take m).any (zH4 ⟨x0,x1,x2⟩)=false)∧∃n,wr=W.drewN n) (fun i _=>l.length - (intOf i).toNat)
 case atStart=>exact⟨0,by omega,rfl,rfl,0,rfl⟩
 case round =>
  obtain⟨m,hml,rfl,hall,nq,rfl⟩:=hrel
  by_cases hlt:m<l.length
  ·obtain⟨y,hy⟩:∃y,l[m]? = some y:=⟨l[m],by simp[hlt]⟩
   obtain⟨b,off,rfl,hb,h0,h1,h2⟩:=LArg.nth HA.out m y hy
   have HY:Hid (l[m]? = some y):=hy
   clear hy
   cases hq:zH4 ⟨x0,x1,x2⟩ y
   ·have HN:Hid ((l.take (m+1)).any (zH4 ⟨x0,x1,x2⟩)=false):=zGt _ l m y HY.out hall.out hq
    obtain⟨y0,y1,y2⟩:=y
    simp only at h0 h1 h2
    by_cases q1:y0=x0
    ·subst q1
     by_cases q2:y1=x1
     ·subst q2
      have q3:(y2==x2)=false:=by simpa[zH4] using hq
      clear hq
      go_wp2_with fail
      go_quiet (fail)
      go_wp2
      go_roundw
      case rel=>exact⟨m+1,by omega,by go_num,HN,_,rfl⟩
      case measure=>simp[intOf];omega
     ·have q2':(y1==x1)=false:=by simpa using q2
      clear hq
      go_wp2_with fail
      go_quiet (fail)
      go_wp2
      go_roundw
      case rel=>exact⟨m+1,by omega,by go_num,HN,_,rfl⟩
      case measure=>simp[intOf];omega
    ·have q1':(y0==x0)=false:=by simpa using q1
     clear hq
     go_wp2_with fail
     go_quiet (fail)
     go_wp2
     go_roundw
     case rel=>exact⟨m+1,by omega,by go_num,HN,_,rfl⟩
     case measure=>simp[intOf];omega
   ·have HN:Hid (R=true):=by rw[←HR.out];exact zIk _ l m y HY.out hq
    rw[zFd] at hq
    subst hq
    go_wp2
    go_quiet (fail)
    go_wp2
    go_ret
    exact⟨zAB HN.out.symm,below_drewN (below_drewN HB.out _) _⟩
  ·have HN:Hid (R=false):=by rw[←HR.out];exact zIl _ l m hlt hall.out
   go_wp2
   go_ret
   exact⟨zAB HN.out.symm,below_drewN HB.out _⟩
end Go.Proofs.YtndcpnlaadikoaaGreatDoor
