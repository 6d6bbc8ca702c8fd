/- What the proof leans on, part 29. -/
import Derived.Test.YtndcpnlaadikoaaGreatDoorPartBb
import Derived.Maps.OwnSet
import Derived.WalkKit
import Derived.Test.YtndcpnlaadikoaaGreatDoorPartAt
import Derived.Test.YtndcpnlaadikoaaGreatDoorPartAq
set_option maxRecDepth 100000
set_option maxHeartbeats 6400000
namespace Go.Proofs.YtndcpnlaadikoaaGreatDoor
open Go.RowKit Go.Maps
theorem zI5 (vs:List MVar) (t:MStep):∀(a p:List MStep),zAZ vs (a++[t]) p=(if ((zAZ vs a p).map fun x=>zAH vs x.cla).contains (zAH vs t.cla) then zAZ vs a p else zAZ vs a p++[t])
 | [],p=>by simp[zAZ]
 | x :: r,p=>by rw[List.cons_append];unfold zAZ;exact zI5 vs t r _
theorem zKu (vs:List MVar):∀(a p:List MStep),(zAZ vs a p).length≤p.length+a.length
 | [],p=>by simp[zAZ]
 | x :: r,p=>by
   unfold zAZ;have:=zKu vs r (if (p.map fun x=>zAH vs x.cla).contains (zAH vs x.cla) then p else p++[x])
   have h2:(if (p.map fun x=>zAH vs x.cla).contains (zAH vs x.cla) then p else p++[x]).length≤p.length+1:=by split <;> simp
   rw[List.length_cons];omega
theorem zOA (L:List SV):∀c∈L.map zBM,c.length=3:=by
 intro c hc;obtain⟨x,_,rfl⟩:=List.mem_map.1 hc;rfl
theorem zSd {base:Nat} {w:World} {a:Option Addr} {c:Nat} {T:List SV} (h:zB0 base w (.slice a T.length c) T) (i:Nat) (x:SV) (hi:T[i]? = some x):∃b off,a=some ⟨b,off,none⟩∧b<w.heap.size ∧
 w.cell? ⟨b,off+i * 3,none⟩=some (.int .i64 x.1.kind)∧w.cell? ⟨b,off+i * 3+1,none⟩=some (.int .i64 x.1.con)∧w.cell? ⟨b,off+i * 3+2,none⟩=some x.2:=by
 rcases h.1.2 with ⟨he,hn⟩ | ⟨g,cap,cur,he,_,hh,_⟩
 ·have:=(List.getElem?_eq_some_iff.1 hi).1
  omega
 ·cases he
  have hc:∀(j:Nat) (u:Value),j<3→(zBM x)[j]? = some u→w.cell? ⟨g,i * 3+j,none⟩=some u:=fun j u hj hu=>by
   have hil:=(List.getElem?_eq_some_iff.1 hi).1;have h3:(T.map zBM).flatten[i * 3+j]? = some u:=by
    have h4:(T.map zBM)[i]? = some (zBM x):=by rw[List.getElem?_map,hi];rfl
    have h5:=zEi 3 i (T.map zBM) (zOA T);have h6:(T.map zBM).drop i=zBM x :: (T.map zBM).drop (i+1):=by
     have hl:i<(T.map zBM).length:=by simpa using hil
     rw[List.drop_eq_getElem_cons hl]
     congr 1
     rw[List.getElem?_eq_getElem hl] at h4;exact Option.some.inj h4
    have h7:((T.map zBM).flatten.drop (i * 3))[j]? = some u:=by
     rw[h5,h6,List.flatten_cons,List.getElem?_append_left (by simpa[zBM] using hj)]
     exact hu
    rwa [List.getElem?_drop] at h7
   have hlt:=(List.getElem?_eq_some_iff.1 h3).1;rw[h.1.1] at hlt;rw[h.1.cellAt (i * 3+j) hlt];exact h3
  refine⟨g,0,rfl,(Array.getElem?_eq_some_iff.1 hh).1,?_,?_,?_⟩
  ·have:=hc 0 _ (by omega) rfl
   simpa using this
  ·have:=hc 1 _ (by omega) rfl
   simpa using this
  ·have:=hc 2 _ (by omega) rfl
   simpa using this
def XP (s mb:Nat) (prv:Value) (k:Nat):Prop:=k=s∨k=mb∨prv.ownBlock=some k
structure PvI (W w:World) (s r mb:Nat) (sv pv cv prv pav:Value) (vs:List MVar) (S:Sk) (base:Nat) (stv:Value) (T:List SV) (k:Nat) (wr:World) (prv':Value) (L':List SV):Prop where
 sk:SkD W wr s r mb sv pv cv prv' pav L' ((zAZ vs ((T.take k).map (·.1)) S.proof).map fun x=>zAH vs x.cla) ⟨S.cs,S.fuel,zAZ vs ((T.take k).map (·.1)) S.proof,S.path⟩
 st:zB0 base wr stv T
 ap:∀g,prv'.ownBlock=some g→stv.ownBlock≠some g
 fr:Fr (XP s mb prv) w wr
 hq:prv'.ownBlock=prv.ownBlock∨∀g,prv'.ownBlock=some g→w.heap.size≤g
 pb:∀g,pav.ownBlock=some g→g<base
 tf:TFr w wr
theorem PvI.below {W w:World} {s r mb:Nat} {sv pv cv prv pav:Value} {vs:List MVar} {S:Sk} {base:Nat} {stv:Value} {T:List SV} {k:Nat} {wr w2:World} {prv':Value} {L':List SV} (h:PvI W w s r mb sv pv cv prv pav vs S base stv T k wr prv' L') (hb:Below wr.heap.size wr w2):PvI W w s r mb sv pv cv prv pav vs S base stv T k w2 prv' L' :=
 ⟨h.sk.below hb,h.st.below hb,h.ap,h.fr.trans (Fr.below hb),h.hq,h.pb,h.tf.trans (TFr.below hb)⟩
theorem zPl (vs:List MVar) (hva:zAQ vs) (pt:List (List Nat)) (W:World) (s r mb:Nat) (sv pv cv prv pav:Value) (hB:SkB W s r mb sv pv vs pt) (L:List SV) (S:Sk) (hS:S.proof.length≤6000) (T:List SV) (hT:T.length≤1500) (base:Nat) (stv:Value) (w:World)
 (hD:SkD W w s r mb sv pv cv prv pav L (S.proof.map fun x=>zAH vs x.cla) S) (hst:zB0 base w stv T) (hbase:W.heap.size≤base) (hpb:∀g,pav.ownBlock=some g→g<base) (hqb:∀g,prv.ownBlock=some g→g<base) :
 Calls Tryz.prog 199 #[.pointer (some ⟨s,0,none⟩),stv] w fun e w'=>e=.returned (.tuple #[])∧∃prv' L',SkD W w' s r mb sv pv cv prv' pav L' ((zAZ vs (T.map (·.1)) S.proof).map fun x=>zAH vs x.cla) ⟨S.cs,S.fuel,zAZ vs (T.map (·.1)) S.proof,S.path⟩∧Fr (XP s mb prv) w w'∧TFr w w':=by
 obtain⟨i0,hi0,hz0,hz1,hz2⟩:=info_parts Tryz.infoStepF;have HVO:Hid (zAQ vs):=hva;have HSB:Hid (SkB W s r mb sv pv vs pt):=hB;have HPL:Hid (∀k,(zAZ vs ((T.take k).map (·.1)) S.proof).length≤7500):=fun k=>by
  have:=zKu vs ((T.take k).map (·.1)) S.proof
  rw[List.length_map,List.length_take] at this;omega
 have HALL:Hid ((T.take T.length).map (·.1)=T.map (·.1)):=by show _=_;rw[List.take_length]
 have HI:Hid (PvI W w s r mb sv pv cv prv pav vs S base stv T 0 w prv L):=by
  refine⟨hD,hst,fun g hg he=>?_,Fr.refl _ _,Or.inl rfl,hpb,TFr.refl _⟩
  have:=hqb g hg;have:=(hst.1.lt g he).1;omega
 obtain⟨asv,csv,hsv⟩:∃a c,sv=.slice a vs.length c:=by obtain⟨a,c,h,_⟩:=(hB.keep w hD.fr).1;exact⟨a,c,h⟩
 obtain⟨ast,cst,rfl⟩:=zAC hst.1;have hTm:T.length≤1500:=hT;have HBA:Hid (W.heap.size≤base):=hbase;subst hsv;clear hD hst hva hB hpb hqb hT hbase;go_enter Tryz.func199,Tryz.ntmps199
 go_wp2_with fail
 go_loopw [11] (fun i wr=>∃(k:Nat) (prv':Value) (L':List SV),k≤T.length∧i=.int .i64 k∧PvI W w s r mb (.slice asv vs.length csv) pv cv prv pav vs S base (.slice ast T.length cst) T k wr prv' L') (fun i _=>T.length - (intOf i).toNat)
 case atStart=>exact⟨0,prv,L,by omega,rfl,HI.out⟩
 case round =>
  obtain⟨k,prv',L',hk,rfl,hI⟩:=hrel;have HJ:Hid (PvI W w s r mb (.slice asv vs.length csv) pv cv prv pav vs S base (.slice ast T.length cst) T k wr prv' L'):=hI;clear hI HI;by_cases hlt:k<T.length
  ·obtain⟨x,hx⟩:∃x,T[k]? = some x:=⟨T[k],by simp[hlt]⟩
   obtain⟨b,off,ha,hbl,c0,c1,c2⟩:=zSd HJ.out.st k x hx;subst ha;obtain⟨⟨xk,xc,xcl⟩,xv⟩:=x;have HXL:Hid (LOwn base wr xv xcl):=HJ.out.st.2 _ (List.mem_of_getElem? hx);obtain⟨axv,cxv,rfl⟩:=zAC (show wr.ownsRow _ _ _ _ _ _ from HXL.out)
   simp only at c0 c1 c2;have HP1:Hid (zAZ vs ((T.take (k+1)).map (·.1)) S.proof=(if ((zAZ vs ((T.take k).map (·.1)) S.proof).map fun x=>zAH vs x.cla).contains (zAH vs xcl) then zAZ vs ((T.take k).map (·.1)) S.proof else zAZ vs ((T.take k).map (·.1)) S.proof++[⟨xk,xc,xcl⟩])):=by
    show _=_;rw[List.take_add_one,hx,List.map_append];exact zI5 vs _ _ _
   have hpl:=HPL.out k;clear hx;go_wp2_with fail
   obtain⟨Y,hY⟩:∃Y,wr.alloc (.cells #[.int .i64 xk,.int .i64 xc,.slice axv xcl.length cxv] 39)=Y:=⟨_,rfl⟩;rw[hY];have hBY:Below wr.heap.size wr Y:=by rw[←hY];exact zAA _ _
   have HJY:Hid (PvI W w s r mb (.slice asv vs.length csv) pv cv prv pav vs S base (.slice (some ⟨b,off,none⟩) T.length cst) T k Y prv' L'):=HJ.out.below hBY;have HXY:Hid (LOwn base Y (.slice axv xcl.length cxv) xcl):=zAB (show wr.ownsRow _ _ _ _ _ _ from HXL.out) hBY
   obtain⟨q,hq⟩:∃q,wr.heap.size=q:=⟨_,rfl⟩;have d0:Y.cell? ⟨q,0,none⟩=some (.int .i64 xk):=by rw[←hY,←hq];simp
   have d1:Y.cell? ⟨q,1,none⟩=some (.int .i64 xc):=by rw[←hY,←hq];simp
   have d2:Y.cell? ⟨q,2,none⟩=some (.slice axv xcl.length cxv):=by rw[←hY,←hq];simp
   have dl:q<Y.heap.size:=by rw[←hY,←hq];simp
   rw[hq];have HQW:Hid (W.heap.size≤q):=by rw[←hq];exact HJ.out.sk.fr.size
   have HJQ:Hid (∀g,prv'.ownBlock=some g→g<q):=fun g hg=>by rw[←hq];exact (HJ.out.sk.prf.1.lt g hg).2
   obtain⟨s0,s1,s2,s3,s4,s5,s6⟩:=HJY.out.sk.cells;obtain⟨h,hh⟩:∃h,zAH vs xcl=h:=⟨_,rfl⟩;have HH36:Hid (h<2 ^ 36):=by rw[←hh];exact zFi vs HVO.out.1 _
   rw[hh] at HP1;have HHE:Hid (∀Z,Below Y.heap.size Y Z→Calls Tryz.prog 85 #[.slice asv vs.length csv,.slice axv xcl.length cxv] Z fun e w'=>e=.returned (.int .u64 (h:Int))∧Below Z.heap.size Z w'):=fun Z hZ=>by
    rw[←hh];exact zCm vs HVO.out xcl _ _ Z ((HSB.out.keep _ ((HJY.out.below hZ).sk.fr)).1) (LOwn.arg (zAB (show Y.ownsRow _ _ _ _ _ _ from HXY.out) hZ))
   have HHH:Hid (zAH vs xcl=h):=hh;clear hh hY hBY HJ HXL c0 c1 c2 hbl hq;go_region_law
    (first
      | (rw[if_pos (by rfl)];go_simp;go_at_call 85;refine (HHE.out _ (Below.refl _ _).drew).mono ?_;rintro e w3 ⟨rfl,hb3⟩;have hB3:Below Y.heap.size Y w3:=(Below.refl _ _).drew.trans hb3;dsimp only))
   all_goals
    have HJ3:Hid (PvI W w s r mb (.slice asv vs.length csv) pv cv prv pav vs S base (.slice (some ⟨b,off,none⟩) T.length cst) T k w3 prv' L'):=HJY.out.below hB3;have HX3:Hid (LOwn base w3 (.slice axv xcl.length cxv) xcl):=zAB (show Y.ownsRow _ _ _ _ _ _ from HXY.out) hB3
    have e0:=(hB3.cell (p:=⟨q,0,none⟩) dl).trans d0;have e1:=(hB3.cell (p:=⟨q,1,none⟩) dl).trans d1;have e2:=(hB3.cell (p:=⟨q,2,none⟩) dl).trans d2;have el:q<w3.heap.size:=Nat.lt_of_lt_of_le dl hB3.size;have hkey:=zRQ h HH36.out;clear d0 d1 d2 dl s0 s1 s2 s3 s4 s5 s6 hb3 hB3 HJY HXY HHE;obtain⟨s0,s1,s2,s3,s4,s5,s6⟩:=HJ3.out.sk.cells;have hmap:=HJ3.out.sk.map;obtain⟨P,hP⟩:∃P,zAZ vs ((T.take k).map (·.1)) S.proof=P:=⟨_,rfl⟩
    rw[hP] at HP1 hmap hpl;cases hc:(P.map fun x=>zAH vs x.cla).contains h
    ·rw[hc] at HP1
     have hh:Maps.has (setU (H:=Unit) (P.map fun x=>zAH vs x.cla)) (.int .u64 (h:Int))=false:=by rw[zNA];exact hc
     clear hc;go_wp2_with (first
      | (at_lookup;refine wpList_lookup_own_unit _ rfl _ _ 114 rfl 136 282 Tryz.partKey Tryz.underThere (Tryz.zeroUnit _) mb _ _ rfl hmap _ _ rfl hkey ?_)
      | (at_mapUpdate;refine wpList_mapUpdate_own _ rfl _ _ _ 114 rfl 136 282 Tryz.partKey Tryz.underThere (unitElem (H:=Unit)) mb _ _ rfl (hmap.alloc _) (by unfold maxLen;rw[List.length_map];omega) _ _ _ rfl rfl hkey _ [] unitElem_mk ?_;intro w5 hown5 hg5)
      | fail)
     have hsk:=HJ3.out.sk;rw[hP] at hsk;have HK5:Hid (SkD W w5 s r mb (.slice asv vs.length csv) pv cv prv' pav L' ((P.map fun x=>zAH vs x.cla)++[h]) ⟨S.cs,S.fuel,P,S.path⟩):=(hsk.below (zAA _ _)).key h _ rfl hg5 hown5
     have hmlt:mb<w3.heap.size:=hmap.lt;have hqm:some q≠some mb:=fun he=>by
      have h1:=HSB.out.mlt;have h2:=HQW.out;have:=Option.some.inj he;omega
     have f0:w5.cell? ⟨q,0,none⟩=some (.int .i64 xk):=hg5.cell (((zAA _ _).cell (p:=⟨q,0,none⟩) el).trans e0) hqm;have f1:w5.cell? ⟨q,1,none⟩=some (.int .i64 xc):=hg5.cell (((zAA _ _).cell (p:=⟨q,1,none⟩) el).trans e1) hqm;have f2:w5.cell? ⟨q,2,none⟩=some (.slice axv xcl.length cxv):=hg5.cell (((zAA _ _).cell (p:=⟨q,2,none⟩) el).trans e2) hqm;have fl:q<w5.heap.size:=by have:=hg5.size;simp at this;omega
     have km:∀{B:Nat} {e:TypeId} {n1 n2:Nat} {v:Value} {xs:List Value},w3.ownsRow B e n1 v n2 xs→w5.ownsRow B e n1 v n2 xs:=fun ho=>(ho.alloc (.cells #[] 282)).kept hg5 (Or.inr (zCg (ho.alloc (.cells #[] 282)) (hmap.alloc (.cells #[] 282))))
     have HX5:Hid (LOwn base w5 (.slice axv xcl.length cxv) xcl):=km HX3.out;have HT5:Hid (zB0 base w5 (.slice (some ⟨b,off,none⟩) T.length cst) T):=⟨km HJ3.out.st.1,fun y hy=>km (HJ3.out.st.2 y hy)⟩
     have HF5:Hid (Fr (XP s mb prv) w w5):=(HJ3.out.fr.alloc _).grown hg5 (fun k hk=>Or.inl (Or.inr (Or.inl (Option.some.inj hk).symm)))
     have HTF5:Hid (TFr w w5):=(HJ3.out.tf.trans (TFr.below (zAA _ _))).trans (TFr.map (hmap.alloc _) hg5);have HAP:Hid (∀g,prv'.ownBlock=some g→(Value.slice (some ⟨b,off,none⟩) T.length cst).ownBlock≠some g):=HJ3.out.ap;have HHQ:Hid (prv'.ownBlock=prv.ownBlock∨∀g,prv'.ownBlock=some g→w.heap.size≤g):=HJ3.out.hq;have HPB:Hid (∀g,pav.ownBlock=some g→g<base):=HJ3.out.pb;have hLP:L'.length≤7500:=by have h9:=hsk.prfE;simp only at h9;rw[←h9,List.length_map] at hpl;exact hpl
     clear hg5 hown5 hmap km hsk hkey hh s0 s1 s2 s3 s4 s5 s6 e0 e1 e2 el HJ3 HX3 hqm hmlt;obtain⟨apr,cpr,rfl⟩:=zAC HK5.out.prf.1;obtain⟨s0,s1,s2,s3,s4,s5,s6⟩:=HK5.out.cells;have hWs:W.heap.size≤w5.heap.size:=HK5.out.fr.size;have hop:w5.ownsRow W.heap.size 39 3 (.slice apr L'.length cpr) L'.length (L'.map zBM).flatten:=HK5.out.prf.1;go_wp2_with fail
     go_region_law
      (first
        | (rw[if_pos (by rfl)];refine zBP _ _ _ 32 rfl W.heap.size 39 i0 _ 3 40 Tryz.underStepsF hi0 hz0 hz1 hz2 rfl (by decide) _ _ _ rfl (hop.drew.alloc _) ⟨w5.heap.size,0,none⟩ 1 1 (zBM (⟨xk,xc,xcl⟩,.slice axv xcl.length cxv)) rfl rfl (zH2 w5.drew (⟨xk,xc,xcl⟩,.slice axv xcl.length cxv)) (by intro u hu;simp[zBM] at hu;rcases hu with rfl | rfl | rfl <;> rfl) ?_ ?_ ?_ ?_;(unfold maxLen;omega);omega;(simp;omega);intro v7 w7 hown7 hg7 hat7;obtain⟨a7,c7,hv7⟩:=zAC hown7;subst hv7
           have hbl7:=zBF (HK5.out.below ((Below.refl _ _).drew.alloc (Nat.le_refl _) _)).blkS hg7 (hop.drew.alloc _) (by decide)
           have t3:w7.cell? ⟨s,3,none⟩=some (.slice apr L'.length cpr):=blk9 hbl7 3 _ rfl;have z3:w7.frozen? ⟨s,3,none⟩=false:=frz9 hbl7 3;have l3:s<w7.heap.size:=(Array.getElem?_eq_some_iff.1 hbl7).1))
     all_goals
      have HJ4:Hid (PvI W w s r mb (.slice asv vs.length csv) pv cv prv pav vs S base (.slice (some ⟨b,off,none⟩) T.length cst) T (k+1) (w7.setCell ⟨s,3,none⟩ (.slice a7 (L'.length+1) c7)) (.slice a7 (L'.length+1) c7) (L'++[(⟨xk,xc,xcl⟩,.slice axv xcl.length cxv)])):=by
       have hb5:Below w5.heap.size w5 (w5.drew.alloc (.cells #[.int .i64 xk,.int .i64 xc,.slice axv xcl.length cxv] 39)):=(Below.refl _ _).drew.alloc (Nat.le_refl _) _;have h2:zAZ vs ((T.take (k+1)).map (·.1)) S.proof=P++[⟨xk,xc,xcl⟩]:=by rw[HP1.out];rfl
       have hx1:LOwn base (w5.drew.alloc (.cells #[.int .i64 xk,.int .i64 xc,.slice axv xcl.length cxv] 39)) (.slice axv xcl.length cxv) xcl:=zAB (show w5.ownsRow _ _ _ _ _ _ from HX5.out) hb5
       have hpush:=HK5.out.push (x:=(⟨xk,xc,xcl⟩,.slice axv xcl.length cxv)) hb5 (zBJ HBA.out hx1) (fun g hg he=>by
        have:=HPB.out g he;have:=(World.ownsRow.lt (show w5.ownsRow _ _ _ _ _ _ from HX5.out) g hg).1
        omega) hg7 rfl hown7
       have hT7:zB0 base w7 (.slice (some ⟨b,off,none⟩) T.length cst) T:=by
        have hT6:=HT5.out.below hb5;refine⟨hT6.1.kept hg7 ?_,fun y hy=>zBE (hT6.2 y hy) hg7 (hop.drew.alloc _) (by decide)⟩
        cases hpo:(Value.slice (some ⟨b,off,none⟩) T.length cst).ownBlock with
        | none=>exact Or.inl rfl
        | some g=>exact Or.inr fun he=>HAP.out g he.symm hpo
       refine⟨?_,hT7.set hbl7 (by decide) (by decide) 3 _,fun g hg he=>?_,?_,?_,HPB.out,((HTF5.out.trans (TFr.below hb5)).trans (TFr.grown (hop.drew.alloc _) hg7 zRR)).trans (TFr.set hbl7 zJq 3 _)⟩
       ·rw[h2,List.map_append]
        simp only[List.map_cons,List.map_nil,HHH.out];exact hpush
       ·rcases hat7 with hat | hat
        ·exact HAP.out g (hat.symm.trans hg) he
        ·rw[hat] at hg
         have:=(HT5.out.1.lt g he).2;have:=Option.some.inj hg;simp at this;omega
       ·refine ((HF5.out.trans (Fr.below hb5)).grown hg7 (fun k hk=>?_)).setX (p:=⟨s,3,none⟩) (Or.inl rfl) _
        rcases HHQ.out with hq | hq
        ·exact Or.inl (Or.inr (Or.inr (hq.symm.trans hk)))
        ·exact Or.inr (hq k hk)
       ·rcases hat7 with hat | hat
        ·rcases HHQ.out with hq | hq
         ·exact Or.inl (hat.trans hq)
         ·exact Or.inr fun g hg=>hq g (hat.symm.trans hg)
        ·refine Or.inr fun g hg=>?_
         rw[hat] at hg;have:=HF5.out.size;have:=Option.some.inj hg;simp at this;omega
      go_wp2
      go_roundw
      case rel=>exact⟨k+1,_,_,by omega,by go_num,HJ4.out⟩
      case measure=>simp[intOf];omega
    ·rw[hc] at HP1
     have hh:Maps.has (setU (H:=Unit) (P.map fun x=>zAH vs x.cla)) (.int .u64 (h:Int))=true:=by rw[zNA];exact hc
     clear hc;go_wp2_with (first
      | (at_lookup;refine wpList_lookup_own_unit _ rfl _ _ 114 rfl 136 282 Tryz.partKey Tryz.underThere (Tryz.zeroUnit _) mb _ _ rfl hmap _ _ rfl hkey ?_)
      | fail)
     have HJ4:Hid (PvI W w s r mb (.slice asv vs.length csv) pv cv prv pav vs S base (.slice (some ⟨b,off,none⟩) T.length cst) T (k+1) (w3.alloc (.cells #[] 282)) prv' L'):=by
      have h1:=HJ3.out.below (zAA w3 (.cells #[] 282));have h2:zAZ vs ((T.take (k+1)).map (·.1)) S.proof=zAZ vs ((T.take k).map (·.1)) S.proof:=by rw[HP1.out,hP];rfl
      refine⟨?_,h1.st,h1.ap,h1.fr,h1.hq,h1.pb,h1.tf⟩;rw[h2];exact h1.sk
     go_roundw
     case rel=>exact⟨k+1,_,_,by omega,by go_num,HJ4.out⟩
     case measure=>simp[intOf];omega
  ·have hkt:k=T.length:=by omega
   subst hkt;have HF:=HJ.out.sk;rw[HALL.out] at HF;have HFR:=HJ.out.fr;have HTR:=HJ.out.tf;go_wp2
   go_end0
   exact⟨rfl,_,_,HF,HFR,HTR⟩
open Go.RowKit
theorem zPm (s:Sto) (k:Nat) (x:List Int) (b:Int) (h:s[k]? = some x):fewF s k (s.drop k) b=fewF s (k+1) (s.drop (k+1)) (if 1<x.length∧(b<0∨x.length<(s.getD b.toNat []).length) then (k:Int) else b):=by
 have hk:=(List.getElem?_eq_some_iff.1 h).1;have:s[k]=x:=by rw[List.getElem?_eq_getElem hk] at h;exact Option.some.inj h
 rw[List.drop_eq_getElem_cons hk,this];rfl
theorem zOB (s:Sto) (hs:s.length≤6) (v:Value) (w:World) (hv:RArg w v s) :
 Calls Tryz.prog 126 #[v] w fun e w'=>e=.returned (.int .i64 (zBV s))∧w'=w:=by
 obtain⟨a,c,rfl,hl,hr⟩:=hv;have HV:Hid (∀(i:Nat) (r:List Int),s[i]? = some r→∃b off x,a=some ⟨b,off,none⟩∧b<w.heap.size∧w.cell? ⟨b,off+i,none⟩=some x∧IArg w x r):=hr;unfold maxLen at hl;obtain⟨hl1,hl⟩:=hl;obtain⟨R,hR⟩:∃R,zBV s=R:=⟨_,rfl⟩;rw[hR];have HR:Hid (fewF s 0 (s.drop 0) (-1)=R):=hR;clear hr hR;go_enter Tryz.func126,Tryz.ntmps126
 go_wp2_with fail
 go_loopw [3,8] (fun bv i wr=>∃(k:Nat) (b:Int),k≤s.length∧i=.int .i64 k∧bv=.int .i64 b∧-1≤b∧b<(s.length:Int)∧Hid (fewF s k (s.drop k) b=R)∧wr=w) (fun _ i _=>s.length - (intOf i).toNat)
 case atStart=>exact⟨0,-1,by omega,rfl,rfl,by omega,by omega,HR,rfl⟩
 case round =>
  obtain⟨k,b,hk,rfl,rfl,hb0,hb1,hf,rfl⟩:=hrel;by_cases hlt:k<s.length
  ·obtain⟨x,hx⟩:∃x,s[k]? = some x:=⟨s[k],by simp[hlt]⟩
   have HF:=hf.out;rw[zPm s k x b hx] at HF;obtain⟨bb,off,y,hax,hlb,hc,a5,c5,rfl,⟨hm5,hm6⟩,_⟩:=HV.out k x hx;subst hax;unfold maxLen at hm6;by_cases h1:1<x.length
   ·have h1':(1:Int)<(x.length:Int):=by omega
    by_cases h2:b<0
    ·rw[if_pos ⟨h1,Or.inl h2⟩] at HF
     have HF2:Hid (fewF s (k+1) (s.drop (k+1)) (k:Int)=R):=HF;clear HF hf hx;go_wp2
     go_roundw
     case rel=>exact⟨k+1,(k:Int),by omega,by go_num,rfl,by omega,by omega,HF2,trivial⟩
     case measure=>simp[intOf];omega
    ·obtain⟨bn,rfl⟩:∃bn:Nat,b=(bn:Int):=⟨b.toNat,by omega⟩
     have hbn:bn<s.length:=by omega
     obtain⟨z,hz⟩:∃z,s[bn]? = some z:=⟨s[bn],by simp[hbn]⟩
     obtain⟨bb2,off2,y2,hax2,hlb2,hc2,a6,c6,rfl,⟨hn5,hn6⟩,_⟩:=HV.out bn z hz;cases hax2
     unfold maxLen at hn6;have hgz:s.getD ((bn:Int)).toNat []=z:=by rw[Int.toNat_natCast,List.getD_eq_getElem?_getD,hz];rfl
     rw[hgz] at HF;by_cases h3:x.length<z.length
     ·rw[if_pos ⟨h1,Or.inr h3⟩] at HF
      have h3':(x.length:Int)<(z.length:Int):=by omega
      have HF2:Hid (fewF s (k+1) (s.drop (k+1)) (k:Int)=R):=HF;clear HF hf hx hz hgz;go_wp2
      go_roundw
      case rel=>exact⟨k+1,(k:Int),by omega,by go_num,rfl,by omega,by omega,HF2,trivial⟩
      case measure=>simp[intOf];omega
     ·rw[if_neg (fun h=>by rcases h.2 with h | h <;> omega)] at HF
      have h3':¬(x.length:Int)<(z.length:Int):=by omega
      have HF2:Hid (fewF s (k+1) (s.drop (k+1)) (bn:Int)=R):=HF;clear HF hf hx hz hgz;go_wp2
      go_roundw
      case rel=>exact⟨k+1,(bn:Int),by omega,by go_num,rfl,by omega,by omega,HF2,trivial⟩
      case measure=>simp[intOf];omega
   ·have h1':¬(1:Int)<(x.length:Int):=by omega
    rw[if_neg (fun h=>h1 h.1)] at HF
    have HF2:Hid (fewF s (k+1) (s.drop (k+1)) b=R):=HF;clear HF hf hx;go_wp2
    go_roundw
    case rel=>exact⟨k+1,b,by omega,by go_num,rfl,by omega,by omega,HF2,trivial⟩
    case measure=>simp[intOf];omega
  ·have HF2:Hid (b=R):=by
    have:=hf.out;rw[List.drop_of_length_le (by omega)] at this
    exact this
   clear hf;go_wp2
   go_ret
   exact⟨zAI HF2.out,rfl⟩
theorem zRS (l:MLit) (c:Cla) (k:Nat) (x:MLit) (h:c[k]? = some x):idxL l (c.drop k)=if zPQ l x then 0 else idxL l (c.drop (k+1))+1:=by
 have hk:=(List.getElem?_eq_some_iff.1 h).1;have:c[k]=x:=by rw[List.getElem?_eq_getElem hk] at h;exact Option.some.inj h
 rw[List.drop_eq_getElem_cons hk,this];rfl
theorem zOC (l:MLit) (c:Cla) (hm:l∈c) (hlen:c.length≤900) (v:Value) (w:World) (hv:LArg w v c) :
 Calls Tryz.prog 200 #[v,.agg #[.int .i64 l.var,.int .i64 l.op,.int .i64 l.n]] w fun e w'=>e=.returned (.int .i64 (idxL l c:Nat))∧Below w.heap.size w w':=by
 obtain⟨a,cc,rfl,hl,hr⟩:=hv;have HV:Hid (∀(i:Nat) (t:MLit),c[i]? = some t→∃b off,a=some ⟨b,off,none⟩∧b<w.heap.size ∧
  w.cell? ⟨b,off+i * 3,none⟩=some (.int .i64 t.var)∧w.cell? ⟨b,off+i * 3+1,none⟩=some (.int .i64 t.op)∧w.cell? ⟨b,off+i * 3+2,none⟩=some (.int .i64 t.n)):=hr
 have HI:Hid (idxL l c<c.length):=zPU l c hm;unfold maxLen at hl;obtain⟨hl1,hl⟩:=hl;obtain⟨R,hR⟩:∃R,idxL l c=R:=⟨_,rfl⟩;rw[hR] at HI ⊢;have HR:Hid (0+idxL l (c.drop 0)=R):=by show 0+idxL l (c.drop 0)=R;rw[List.drop_zero,Nat.zero_add];exact hR
 clear hr hR hm;go_enter Tryz.func200,Tryz.ntmps200
 go_wp2_with fail
 go_loopw [8] (fun i wr=>∃k:Nat,k≤c.length∧i=.int .i64 k∧Hid (k+idxL l (c.drop k)=R)∧Below (w.heap.size+1) (w.alloc (.cells #[.int .i64 l.var,.int .i64 l.op,.int .i64 l.n] 76)) wr) (fun i _=>c.length - (intOf i).toNat)
 case atStart=>exact⟨0,by omega,rfl,HR,Below.refl _ _⟩
 case round =>
  obtain⟨k,hk,rfl,hf,hbw⟩:=hrel;have hbw2:Below w.heap.size w wr:=(zAA _ _).trans (hbw.mono (by omega))
  have g0:wr.cell? ⟨w.heap.size,0,none⟩=some (.int .i64 l.var):=(hbw.cell (p:=⟨w.heap.size,0,none⟩) (by simp)).trans (by simp)
  have g1:wr.cell? ⟨w.heap.size,1,none⟩=some (.int .i64 l.op):=(hbw.cell (p:=⟨w.heap.size,1,none⟩) (by simp)).trans (by simp)
  have g2:wr.cell? ⟨w.heap.size,2,none⟩=some (.int .i64 l.n):=(hbw.cell (p:=⟨w.heap.size,2,none⟩) (by simp)).trans (by simp)
  have HB:Hid (Below w.heap.size w wr):=hbw2;have HBW:Hid (Below (w.heap.size+1) (w.alloc (.cells #[.int .i64 l.var,.int .i64 l.op,.int .i64 l.n] 76)) wr):=hbw;clear hbw hbw2;by_cases hlt:k<c.length
  ·obtain⟨x,hx⟩:∃x,c[k]? = some x:=⟨c[k],by simp[hlt]⟩
   have HF:=hf.out;rw[zRS l c k x hx] at HF;obtain⟨bb,off,hax,hlb,c0,c1,c2⟩:=HV.out k x hx;subst hax;have e0:=(HB.out.cell (p:=⟨bb,off+k * 3,none⟩) hlb).trans c0;have e1:=(HB.out.cell (p:=⟨bb,off+k * 3+1,none⟩) hlb).trans c1;have e2:=(HB.out.cell (p:=⟨bb,off+k * 3+2,none⟩) hlb).trans c2;clear c0 c1 c2;by_cases hs:zPQ l x=true
   ·rw[if_pos hs] at HF
    have HF2:Hid (k=R):=by show k=R;omega
    obtain rfl:=(zLo l x).1 hs;clear HF hf hx hs;go_wp2_with fail
    go_quiet (fail)
    go_wp2_with fail
    go_ret
    exact⟨zAI (by rw[HF2.out]),below_drewN HB.out _⟩
   ·rw[if_neg hs] at HF
    have HF2:Hid (k+1+idxL l (c.drop (k+1))=R):=by show _=R;omega
    clear HF hf hx;obtain⟨lv,lo,ln⟩:=l;obtain⟨xv,xo,xn⟩:=x;simp only at g0 g1 g2 e0 e1 e2 HF2 HR;by_cases q1:lv=xv
    ·by_cases q2:lo=xo
     ·have q3:¬ln=xn:=fun h=>hs ((zLo _ _).2 (by rw[q1,q2,h]))
      subst q1 q2;have q3':(ln==xn)=false:=by simpa using q3
      clear hs;go_wp2_with fail
      go_quiet (fail)
      go_wp2
      go_roundw
      case rel=>exact⟨k+1,by omega,by go_num,HF2,below_drewN HBW.out _⟩
      case measure=>simp[intOf];omega
     ·have q2':(lo==xo)=false:=by simpa using q2
      subst q1;clear hs;go_wp2_with fail
      go_quiet (fail)
      go_wp2
      go_roundw
      case rel=>exact⟨k+1,by omega,by go_num,HF2,below_drewN HBW.out _⟩
      case measure=>simp[intOf];omega
    ·have q1':(lv==xv)=false:=by simpa using q1
     clear hs;go_wp2_with fail
     go_quiet (fail)
     go_wp2
     go_roundw
     case rel=>exact⟨k+1,by omega,by go_num,HF2,below_drewN HBW.out _⟩
     case measure=>simp[intOf];omega
  ·exfalso
   have:=hf.out;have:=HI.out;omega
end Go.Proofs.YtndcpnlaadikoaaGreatDoor
