/- ReportAnswers is true at every input: Answer answers what the document says of what Best does, errors too. No condition of its own (the row lists package-level variables of the standard library; the card ties them to the program's text). -/
import Derived.Test.YtdjbejlbmaiocagGreatDoorPartBu
import Derived.Test.YtdjbejlbmaiocagGreatDoorTie
import Derived.Test.YtdjbejlbmaiocagGreatDoorCards
import Derived.ProofKit
import Derived.LaidMore
import Derived.OpenShut
import Derived.Stop.Joined
import Derived.SevenTiedAt
import Derived.Lib.LaidTab
set_option maxRecDepth 100000
set_option maxHeartbeats 1600000
namespace Go.Proofs.YtdjbejlbmaiocagGreatDoor
open Go.ChangeShapes Go.WideShapes Go.ChangeAt Go.RowKit Go.Deep
open Go.ChangeMaps (open_string shut_string)
theorem zTy:ownKnob Tryz.prog.godebug=none:=by kernel_rfl
theorem zI6:laidOutB Tryz.prog=true:=by kernel_rfl
theorem zTG:Tryz.prog.globalNamed "math/bits.deBruijn64tab" = some 1:=by kernel_rfl
theorem zTz:(Tryz.prog.globals[1]?).map (·.type)=some 313:=by kernel_rfl
def zKn:List Int:=Lib.deBruijn64tab.map Int.ofNat
theorem zT0:(Rows.laid_math_bits_deBruijn64tab:DataW Unit)=Lib.tabData .u8 zKn:=by rfl
theorem zUM:Tryz.prog.globalNamed "internal/strconv.uint64pow10" = some 0:=by kernel_rfl
theorem zT1:(Tryz.prog.globals[0]?).map (·.type)=some 300:=by kernel_rfl
theorem zS3:(Rows.laid_internal_strconv_uint64pow10:DataW Unit)=Lib.tabData .u64 Lib.pow10Tab:=by rfl
theorem zOH {W:World} (h:laidMetH Tryz.prog Rows.reportAnswersRow.laid W):TabT W∧TabN W.heap.size W:=by
 rw[MakeChecks.laidMetH_plain _ _ _ (by kernel_rfl)] at h
 obtain⟨ps,⟨g0,t0,cs0,f0,p0,q0,hg0,ht0,hv0,hd0,⟨g1,t1,cs1,f1,p1,q1,hg1,ht1,hv1,hd1,⟨g2,t2,cs2,f2,p2,q2,hg2,ht2,hv2,hd2,_,_⟩,_⟩,_⟩,_,_⟩:=h;obtain rfl:=Option.some.inj (zTG.symm.trans hg1);obtain rfl:=Option.some.inj (zTz.symm.trans ht1);obtain rfl:=Option.some.inj (zUM.symm.trans hg2);obtain rfl:=Option.some.inj (zT1.symm.trans ht2);have hT:Lib.TabIs Tryz.prog W "math/bits.deBruijn64tab" .u8 zKn:=by
  unfold Lib.TabIs;rw[hv1];rw[zT0] at hd1;have:=Lib.cells_of_tab (e:=5) (n:=64) Tryz.underlying313 Tryz.underlying5 (by kernel_rfl) (by kernel_rfl) hd1
  rw[←this]
 have hN:Lib.TabIs Tryz.prog W "internal/strconv.uint64pow10" .u64 Lib.pow10Tab:=by
  unfold Lib.TabIs;rw[hv2];rw[zS3] at hd2;have:=Lib.cells_of_tab (e:=182) (n:=20) Tryz.underlying300 Tryz.underlying182 (by kernel_rfl) (by kernel_rfl) hd2
  rw[←this]
 refine⟨fun j hj=>?_,hN,fun g hg=>?_⟩
 ·have:=hT.cell zTG j (by simpa[zKn] using hj)
  rw[this];simp[zKn,List.getD_eq_getElem?_getD,hj]
 ·have:=hN.cell hg 0 (by decide)
  exact World.block_lt_of_cell? W ⟨g,0,none⟩ this
theorem zS4 (os:Os) (args:Array Value):laidMetH Tryz.prog Rows.reportAnswersRow.laid ((World.doorLaid Tryz.prog 400 os).forCall (fun _ _=>0) ⟨#[],args,[]⟩).memory :=
 laidMetH_of_parts3 (fuel:=8) (laidMet_of_run' 8 (by kernel_rfl) (by kernel_rfl)) (by kernel_rfl) (by kernel_rfl)
theorem zPT (os:Os) (started:os.Started) (H:Type) (enc:TypeId×Value→H) :
 ReturnsInHanded {} Tryz.checked os 5 .any (fun w args=>(Rows.reportAnswersSpec.pre enc Tryz.prog Tryz.f5 [] false w args∧laidMetH Tryz.prog Rows.reportAnswersRow.laid w)∧sizedMet enc Tryz.prog Tryz.f5 (OpenSpec.ofChange Rows.reportAnswersSpec) false w args)
  (Rows.reportAnswersSpec.post enc Tryz.prog Tryz.f5 false true false false):=by
 refine returnsInHanded_of_change_and (C:=Tryz.checked) (X:=fun w _=>laidMetH Tryz.prog Rows.reportAnswersRow.laid w) (fun _ _ _ hh h=>h.of_heap hh) zTy started (by kernel_rfl) Tryz.func5
  (ChangeSpec.witness_shaped (enc:=enc) (C:=Tryz.checked) (os:=os) (X:=fun w _=>laidMetH Tryz.prog Rows.reportAnswersRow.laid w) false (World.doorLaid Tryz.prog 400 os) #[.string ⟨#[]⟩,.int .i64 0] 8 rfl (World.shaped_of_RefB (by kernel_rfl) (by kernel_rfl)) (by kernel_rfl) (by kernel_rfl) (by kernel_rfl) (zS4 os _)) ?_
 intro W base args ds gs before hval0 hW _ _ hL _;have hval:∀(j:Nat) t v,Tryz.f5.params[j]? = some t→args[j]? = some v→Value.okWide Tryz.prog W .any base t v:=hval0;have hW':=hW;obtain⟨p,q,hA0,hV,rfl,hfz,hnd⟩:=hW;have hA:DataW.TrodAll enc Tryz.prog W 0 (fun _=>true) true Tryz.f5.params.toList args.toList ds p:=hA0
 rw[Tryz.params5] at hA hval;obtain⟨v0,vs0,d0,ds0,p0,q0,hargs,rfl,rfl,h0,r0⟩:=trodAll_cons hA;obtain⟨v1,vs1,d1,ds1,p1,q1,rfl,rfl,rfl,h1,r1⟩:=trodAll_cons r0;obtain⟨rfl,rfl,rfl⟩:=trodAll_nil r1;obtain rfl:args=#[v0,v1]:=by cases args;simp_all
 obtain⟨rfl,rfl⟩:=trodVars_none hV;have k0:=h0;have k1:=h1;have lt0:∀x∈p0,x.block<W.heap.size:=by obtain⟨m,hm⟩:=k0;exact DataW.trod_lt m _ _ _ hm
 have lt1:∀x∈p1,x.block<W.heap.size:=by obtain⟨m,hm⟩:=k1;exact DataW.trod_lt m _ _ _ hm
 obtain⟨s0,rfl,rfl,rfl,hs0⟩:=open_string Tryz.underlying9 (hval 0 9 v0 rfl rfl) h0;obtain⟨x1,rfl⟩:=okWide_int Tryz.underlying3 (hval 1 3 v1 rfl rfl);clear hA0 hval0;simp only[List.append_nil] at hW';refine (zMK W.heap.size s0 x1  W hs0 (zOH hL).1 (zOH hL).2 (Nat.le_refl _)).mono fun e W' ⟨he,bel⟩=>?_
 subst he;exact⟨_,rfl,_,_,_,[],_,[],hW',trodAll_mk1 (shut_bool Tryz.underlying4 _),
  (trodAll_cons_mk (Below.trod zI6 (by kernel_rfl) (of_decide_eq_true (by kernel_rfl)) k0 bel lt0) (trodAll_cons_mk (Below.trod zI6 (by kernel_rfl) (of_decide_eq_true (by kernel_rfl)) k1 bel lt1) trodAll_mk0)),rfl,bel.frame _,fun h=>by cases h⟩
theorem zGH:Rows.ReportAnswersSaid :=
 OpenClaim.holds_of_wide 5 Tryz.f5 rfl rfl rfl rfl rfl rfl rfl ⟨rfl,rfl,rfl,rfl,rfl⟩ rfl rfl rfl rfl rfl (by kernel_rfl) Tryz.func5 (by kernel_rfl)
  (of_decide_eq_true (by kernel_rfl)) (by unfold Func.isWrapper;first | (rw[if_pos (by decide +kernel)];kernel_rfl) | (rw[if_neg (by decide +kernel)];exact⟨rfl,rfl⟩))
  (fun os started H enc _=>zPT os started H enc)
theorem reportAnswers_card:Rows.ReportAnswersCardSaid :=
 Claim7.holds_tied_plain_at .later [] [.data,.data,.data,.sentinel,.sentinel] true (true,Rows.reportAnswersCard.stood.harness.2) true
  zGH (fun _ h=>by cases h) (by kernel_rfl) (fun _ h=>by cases h) reportAnswers_row_tie rfl ⟨rfl,rfl⟩ (by kernel_rfl) rfl
  (fun f fn hf hfn=>by
    obtain rfl:f=5:=Option.some.inj ((show Tryz.prog.funcNamed "cordon/cordonlaw.ReportAnswers" = some 5 by kernel_rfl).symm.trans hf) |>.symm
    obtain rfl:fn=Tryz.f5:=(Option.some.inj (Tryz.func5.symm.trans hfn)).symm;exact⟨by kernel_rfl,fun j t ht=>by
     rw[Tryz.params5] at ht;have hm:t∈[9,3]:=by simpa using Array.mem_of_getElem? ht
     have hall:([9,3].all fun u=>!Tryz.prog.wantsStandIn u)=true:=by kernel_rfl
     exact (show Tryz.prog.wantsStandIn t=false by simpa using List.all_eq_true.1 hall t hm)⟩)
  (by kernel_rfl)
end Go.Proofs.YtdjbejlbmaiocagGreatDoor
