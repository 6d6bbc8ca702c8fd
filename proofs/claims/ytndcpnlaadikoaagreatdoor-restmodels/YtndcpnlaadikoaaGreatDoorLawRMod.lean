/- RestModels is true at every input: models, answers and lists that came, and were changed, change nothing that was handed in, nor what comes next. No condition of its own (the row lists five package-level variables of the standard library; the card ties them to the program's text). -/
import Derived.Test.YtndcpnlaadikoaaGreatDoorPartBs
import Derived.Test.YtndcpnlaadikoaaGreatDoorPartBt
import Derived.Test.YtndcpnlaadikoaaGreatDoorTie
import Derived.Test.YtndcpnlaadikoaaGreatDoorCards
import Derived.ProofKit
import Derived.LaidMore
import Derived.OpenShut
import Derived.Stop.Joined
import Derived.SevenTiedAt
import Derived.Lib.LaidTab
set_option maxRecDepth 100000
set_option maxHeartbeats 1600000
namespace Go.Proofs.YtndcpnlaadikoaaGreatDoor
open Go.ChangeShapes Go.WideShapes Go.ChangeAt Go.RowKit Go.Deep
open Go.ChangeMaps (open_string shut_string)
theorem zS2:ownKnob Tryz.prog.godebug=none:=by kernel_rfl
theorem zFX:laidOutB Tryz.prog=true:=by kernel_rfl
theorem zSE:Tryz.prog.globalNamed "math/bits.deBruijn64tab" = some 0:=by kernel_rfl
theorem zS3:(Tryz.prog.globals[0]?).map (·.type)=some 304:=by kernel_rfl
def zJy:List Int:=Lib.deBruijn64tab.map Int.ofNat
theorem zS4:(Rows.laid_math_bits_deBruijn64tab:DataW Unit)=Lib.tabData .u8 zJy:=by rfl
theorem zTQ:Tryz.prog.globalNamed "internal/strconv.uint64pow10" = some 1:=by kernel_rfl
theorem zS5:(Tryz.prog.globals[1]?).map (·.type)=some 320:=by kernel_rfl
theorem zR0:(Rows.laid_internal_strconv_uint64pow10:DataW Unit)=Lib.tabData .u64 Lib.pow10Tab:=by rfl
theorem zNR {W:World} (h:laidMetH Tryz.prog Rows.restModelsRow.laid W):TabT W∧TabN W.heap.size W:=by
 rw[MakeChecks.laidMetH_plain _ _ _ (by kernel_rfl)] at h
 obtain⟨ps,⟨g0,t0,cs0,f0,p0,q0,hg0,ht0,hv0,hd0,⟨g1,t1,cs1,f1,p1,q1,hg1,ht1,hv1,hd1,⟨g2,t2,cs2,f2,p2,q2,hg2,ht2,hv2,hd2,_,_⟩,_⟩,_⟩,_,_⟩:=h;obtain rfl:=Option.some.inj (zSE.symm.trans hg1);obtain rfl:=Option.some.inj (zS3.symm.trans ht1);obtain rfl:=Option.some.inj (zTQ.symm.trans hg2);obtain rfl:=Option.some.inj (zS5.symm.trans ht2);have hT:Lib.TabIs Tryz.prog W "math/bits.deBruijn64tab" .u8 zJy:=by
  unfold Lib.TabIs;rw[hv1];rw[zS4] at hd1;have:=Lib.cells_of_tab (e:=5) (n:=64) Tryz.underlying304 Tryz.underlying5 (by kernel_rfl) (by kernel_rfl) hd1
  rw[←this]
 have hN:Lib.TabIs Tryz.prog W "internal/strconv.uint64pow10" .u64 Lib.pow10Tab:=by
  unfold Lib.TabIs;rw[hv2];rw[zR0] at hd2;have:=Lib.cells_of_tab (e:=135) (n:=20) Tryz.underlying320 Tryz.underlying135 (by kernel_rfl) (by kernel_rfl) hd2
  rw[←this]
 refine⟨fun j hj=>?_,hN,fun g hg=>?_⟩
 ·have:=hT.cell zSE j (by simpa[zJy] using hj)
  rw[this];simp[zJy,List.getD_eq_getElem?_getD,hj]
 ·have:=hN.cell hg 0 (by decide)
  exact World.block_lt_of_cell? W ⟨g,0,none⟩ this
theorem zR1 (os:Os) (args:Array Value):laidMetH Tryz.prog Rows.restModelsRow.laid ((World.doorLaid Tryz.prog 400 os).forCall (fun _ _=>0) ⟨#[],args,[]⟩).memory :=
 laidMetH_of_parts3 (fuel:=8) (laidMet_of_run' 8 (by kernel_rfl) (by kernel_rfl)) (by kernel_rfl) (by kernel_rfl)
theorem zOb (os:Os) (started:os.Started) (H:Type) (enc:TypeId×Value→H) :
 ReturnsInHanded {} Tryz.checked os 5 .any (fun w args=>(Rows.restModelsSpec.pre enc Tryz.prog Tryz.f5 [] false w args∧laidMetH Tryz.prog Rows.restModelsRow.laid w)∧sizedMet enc Tryz.prog Tryz.f5 (OpenSpec.ofChange Rows.restModelsSpec) false w args)
  (Rows.restModelsSpec.post enc Tryz.prog Tryz.f5 false true false false):=by
 refine returnsInHanded_of_change_and (C:=Tryz.checked) (X:=fun w _=>laidMetH Tryz.prog Rows.restModelsRow.laid w) (fun _ _ _ hh h=>h.of_heap hh) zS2 started (by kernel_rfl) Tryz.func5
  (ChangeSpec.witness_shaped (enc:=enc) (C:=Tryz.checked) (os:=os) (X:=fun w _=>laidMetH Tryz.prog Rows.restModelsRow.laid w) false (World.doorLaid Tryz.prog 400 os) #[.agg #[.slice none 0 0,.slice none 0 0,.int .i64 0,.int .i64 0],.string ⟨#[]⟩,.int .i64 0] 8 rfl (World.shaped_of_RefB (by kernel_rfl) (by kernel_rfl)) (by kernel_rfl) (by kernel_rfl) (by kernel_rfl) (zR1 os _)) ?_
 intro W base args ds gs before hval0 hW _ hwt hL _;have hval:∀(j:Nat) t v,Tryz.f5.params[j]? = some t→args[j]? = some v→Value.okWide Tryz.prog W .any base t v:=hval0;have hW':=hW;obtain⟨p,q,hA0,hV,rfl,hfz,hnd⟩:=hW;have hA:DataW.TrodAll enc Tryz.prog W 0 (fun _=>true) true Tryz.f5.params.toList args.toList ds p:=hA0
 rw[Tryz.params5] at hA hval;obtain⟨v0,vs0,d0,ds0,p0,q0,hargs,rfl,rfl,h0,r0⟩:=trodAll_cons hA;obtain⟨v1,vs1,d1,ds1,p1,q1,rfl,rfl,rfl,h1,r1⟩:=trodAll_cons r0;obtain⟨v2,vs2,d2,ds2,p2,q2,rfl,rfl,rfl,h2,r2⟩:=trodAll_cons r1;obtain⟨rfl,rfl,rfl⟩:=trodAll_nil r2;obtain rfl:args=#[v0,v1,v2]:=by cases args;simp_all
 obtain⟨rfl,rfl⟩:=trodVars_none hV;have k0:=h0;have k1:=h1;have k2:=h2;have lt0:∀x∈p0,x.block<W.heap.size:=by obtain⟨m,hm⟩:=k0;exact DataW.trod_lt m _ _ _ hm
 have lt1:∀x∈p1,x.block<W.heap.size:=by obtain⟨m,hm⟩:=k1;exact DataW.trod_lt m _ _ _ hm
 have lt2:∀x∈p2,x.block<W.heap.size:=by obtain⟨m,hm⟩:=k2;exact DataW.trod_lt m _ _ _ hm
 have hlt:zEq 25 d0:=fun k hk=>by
  have h:=List.all_eq_true.1 hwt k (DataW.weights_mem_each (j:=0) (t:=25) (d:=d0) (by rw[Tryz.params5];rfl) rfl k hk)
  simpa using h
 obtain⟨vs,cs,m,rfl,hm,hsz⟩:=zMa (hval 0 25 v0 rfl rfl) h0 hlt;obtain⟨s1,rfl,rfl,rfl,hs1⟩:=open_string Tryz.underlying9 (hval 1 9 v1 rfl rfl) h1;obtain⟨x2,rfl⟩:=okWide_int Tryz.underlying3 (hval 2 3 v2 rfl rfl);clear hA0 hval0;simp only[List.append_nil] at hW';refine (zMU m hsz s1 hs1 x2 vs cs W hm (zNR hL).1 (zNR hL).2).mono fun e W' ⟨he,bel⟩=>?_
 subst he;exact⟨_,rfl,_,_,_,[],_,[],hW',trodAll_mk1 (shut_bool Tryz.underlying4 _),
  (trodAll_cons_mk (Below.trod zFX (by kernel_rfl) (of_decide_eq_true (by kernel_rfl)) k0 bel lt0) (trodAll_cons_mk (Below.trod zFX (by kernel_rfl) (of_decide_eq_true (by kernel_rfl)) k1 bel lt1) (trodAll_cons_mk (Below.trod zFX (by kernel_rfl) (of_decide_eq_true (by kernel_rfl)) k2 bel lt2) trodAll_mk0))),rfl,bel.frame _,fun h=>by cases h⟩
theorem zG0:Rows.RestModelsSaid :=
 OpenClaim.holds_of_wide 5 Tryz.f5 rfl rfl rfl rfl rfl rfl rfl ⟨rfl,rfl,rfl,rfl,rfl⟩ rfl rfl rfl rfl rfl (by kernel_rfl) Tryz.func5 (by kernel_rfl)
  (of_decide_eq_true (by kernel_rfl)) (by unfold Func.isWrapper;first | (rw[if_pos (by decide +kernel)];kernel_rfl) | (rw[if_neg (by decide +kernel)];exact⟨rfl,rfl⟩))
  (fun os started H enc _=>zOb os started H enc)
theorem restModels_card:Rows.RestModelsCardSaid :=
 Claim7.holds_tied_plain_at .later [] [.data,.data,.data,.sentinel,.sentinel] true (true,Rows.restModelsCard.stood.harness.2) true
  zG0 (fun _ h=>by cases h) (by kernel_rfl) (fun _ h=>by cases h) restModels_row_tie rfl ⟨rfl,rfl⟩ (by kernel_rfl) rfl
  (fun f fn hf hfn=>by
    obtain rfl:f=5:=Option.some.inj ((show Tryz.prog.funcNamed "cordon/cordonlaw.RestModels" = some 5 by kernel_rfl).symm.trans hf) |>.symm
    obtain rfl:fn=Tryz.f5:=(Option.some.inj (Tryz.func5.symm.trans hfn)).symm;exact⟨by kernel_rfl,fun j t ht=>by
     rw[Tryz.params5] at ht;have hm:t∈[25,9,3]:=by simpa using Array.mem_of_getElem? ht
     have hall:([25,9,3].all fun u=>!Tryz.prog.wantsStandIn u)=true:=by kernel_rfl
     exact (show Tryz.prog.wantsStandIn t=false by simpa using List.all_eq_true.1 hall t hm)⟩)
  (by kernel_rfl)
end Go.Proofs.YtndcpnlaadikoaaGreatDoor
