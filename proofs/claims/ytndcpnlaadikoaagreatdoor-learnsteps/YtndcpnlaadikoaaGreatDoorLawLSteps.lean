/- LearnSteps is true at every input: all steps are right behind the clauses, and the last one is what is learned; errors too. No condition of its own (the row lists one package-level variable of the standard library, math/bits' table; the card ties it to the program's text). -/
import Derived.Test.YtndcpnlaadikoaaGreatDoorPartBs
import Derived.Test.YtndcpnlaadikoaaGreatDoorTie
import Derived.Test.YtndcpnlaadikoaaGreatDoorCards
import Derived.ProofKit
import Derived.LaidMore
import Derived.OpenShut
import Derived.Stop.Joined
import Derived.SevenTiedAt
import Derived.Lib.LaidTab
namespace Go.Proofs.YtndcpnlaadikoaaGreatDoor
open Go.ChangeShapes Go.WideShapes Go.ChangeAt Go.RowKit Go.Deep
open Go.ChangeMaps (open_string shut_string)
theorem zNs:ownKnob Tryz.prog.godebug=none:=by kernel_rfl
theorem zDp:laidOutB Tryz.prog=true:=by kernel_rfl
theorem zNI:Tryz.prog.globalNamed "math/bits.deBruijn64tab" = some 0:=by kernel_rfl
theorem zNt:(Tryz.prog.globals[0]?).map (·.type)=some 304:=by kernel_rfl
def zHD:List Int:=Lib.deBruijn64tab.map Int.ofNat
theorem zNu:(Rows.laid_math_bits_deBruijn64tab:DataW Unit)=Lib.tabData .u8 zHD:=by rfl
theorem zJB {W:World} (h:laidMetH Tryz.prog Rows.learnStepsRow.laid W):TabT W:=by
 rw[MakeChecks.laidMetH_plain _ _ _ (by kernel_rfl)] at h
 have h2:laidMet Tryz.prog (("math/bits.deBruijn64tab",Lib.tabData .u8 zHD) :: []) W:=by
  rw[←zNu];exact h
 have ht:=Lib.tabIs_of_head (e:=5) (n:=64) zNI zNt Tryz.underlying304 Tryz.underlying5 (by kernel_rfl) (by kernel_rfl) h2
 intro j hj
 have:=ht.cell zNI j (by simpa[zHD] using hj)
 rw[this]
 simp[zHD,List.getD_eq_getElem?_getD,hj]
theorem zM9 (os:Os) (args:Array Value):laidMetH Tryz.prog Rows.learnStepsRow.laid ((World.doorLaid Tryz.prog 400 os).forCall (fun _ _=>0) ⟨#[],args,[]⟩).memory :=
 laidMetH_of_parts3 (fuel:=8) (laidMet_of_run' 8 (by kernel_rfl) (by kernel_rfl)) (by kernel_rfl) (by kernel_rfl)
set_option maxHeartbeats 1600000 in
set_option maxRecDepth 100000 in
theorem zKo (os:Os) (started:os.Started) (H:Type) (enc:TypeId×Value→H) :
 ReturnsInHanded {} Tryz.checked os 3 .any (fun w args=>(Rows.learnStepsSpec.pre enc Tryz.prog Tryz.f3 [] false w args∧laidMetH Tryz.prog Rows.learnStepsRow.laid w)∧sizedMet enc Tryz.prog Tryz.f3 (OpenSpec.ofChange Rows.learnStepsSpec) false w args)
  (Rows.learnStepsSpec.post enc Tryz.prog Tryz.f3 false true false false):=by
 refine returnsInHanded_of_change_and (C:=Tryz.checked) (X:=fun w _=>laidMetH Tryz.prog Rows.learnStepsRow.laid w) (fun _ _ _ hh h=>h.of_heap hh) zNs started (by kernel_rfl) Tryz.func3
  (ChangeSpec.witness_shaped (enc:=enc) (C:=Tryz.checked) (os:=os) (X:=fun w _=>laidMetH Tryz.prog Rows.learnStepsRow.laid w) false (World.doorLaid Tryz.prog 400 os) #[.agg #[.slice none 0 0,.slice none 0 0,.int .i64 0,.int .i64 0],.slice none 0 0,.slice none 0 0] 8 rfl (World.shaped_of_RefB (by kernel_rfl) (by kernel_rfl)) (by kernel_rfl) (by kernel_rfl) (by kernel_rfl) (zM9 os _)) ?_
 intro W base args ds gs before hval0 hW _ _ hL _
 have hval:∀(j:Nat) t v,Tryz.f3.params[j]? = some t→args[j]? = some v→Value.okWide Tryz.prog W .any base t v:=hval0
 have hW':=hW
 obtain⟨p,q,hA0,hV,rfl,hfz,hnd⟩:=hW
 have hA:DataW.TrodAll enc Tryz.prog W 0 (fun _=>true) true Tryz.f3.params.toList args.toList ds p:=hA0
 rw[Tryz.params3] at hA hval
 obtain⟨v0,vs0,d0,ds0,p0,q0,hargs,rfl,rfl,h0,r0⟩:=trodAll_cons hA
 obtain⟨v1,vs1,d1,ds1,p1,q1,rfl,rfl,rfl,h1,r1⟩:=trodAll_cons r0
 obtain⟨v2,vs2,d2,ds2,p2,q2,rfl,rfl,rfl,h2,r2⟩:=trodAll_cons r1
 obtain⟨rfl,rfl,rfl⟩:=trodAll_nil r2
 obtain rfl:args=#[v0,v1,v2]:=by cases args;simp_all
 obtain⟨rfl,rfl⟩:=trodVars_none hV
 have k0:=h0
 have k1:=h1
 have k2:=h2
 have lt0:∀x∈p0,x.block<W.heap.size:=by obtain⟨m,hm⟩:=k0;exact DataW.trod_lt m _ _ _ hm
 have lt1:∀x∈p1,x.block<W.heap.size:=by obtain⟨m,hm⟩:=k1;exact DataW.trod_lt m _ _ _ hm
 have lt2:∀x∈p2,x.block<W.heap.size:=by obtain⟨m,hm⟩:=k2;exact DataW.trod_lt m _ _ _ hm
 obtain⟨vs,cs,m,rfl,hm⟩:=zKA (hval 0 25 v0 rfl rfl) h0
 obtain⟨f1,hf1⟩:=h1
 obtain⟨u1,l1,e1,i1⟩:=zL3 hf1
 obtain⟨a1,n1,c1,rfl⟩:=okWide_slice Tryz.underClauses (hval 1 26 v1 rfl rfl)
 obtain rfl:u1=.slice a1 n1 c1:=by simpa[Value.cells] using e1.symm
 obtain⟨f2,hf2⟩:=h2
 obtain⟨u2,l2,e2,i2⟩:=zF4 hf2
 obtain⟨a2,n2,c2,rfl⟩:=okWide_slice Tryz.underlying27 (hval 2 27 v2 rfl rfl)
 obtain rfl:u2=.slice a2 n2 c2:=by simpa[Value.cells] using e2.symm
 clear hA0 hval0
 simp only[List.append_nil] at hW'
 refine (zKn m l1 l2 vs cs _ _ W hm i1 i2 (zJB hL)).mono fun e W' ⟨he,bel⟩=>?_
 subst he
 exact⟨_,rfl,_,_,_,[],_,[],hW',trodAll_mk1 (shut_bool Tryz.underlying4 _),
  (trodAll_cons_mk (Below.trod zDp (by kernel_rfl) (of_decide_eq_true (by kernel_rfl)) k0 bel lt0) (trodAll_cons_mk (Below.trod zDp (by kernel_rfl) (of_decide_eq_true (by kernel_rfl)) k1 bel lt1) (trodAll_cons_mk (Below.trod zDp (by kernel_rfl) (of_decide_eq_true (by kernel_rfl)) k2 bel lt2) trodAll_mk0))),rfl,bel.frame _,fun h=>by cases h⟩
theorem zEu:Rows.LearnStepsSaid :=
 OpenClaim.holds_of_wide 3 Tryz.f3 rfl rfl rfl rfl rfl rfl rfl ⟨rfl,rfl,rfl,rfl,rfl⟩ rfl rfl rfl rfl rfl (by kernel_rfl) Tryz.func3 (by kernel_rfl)
  (of_decide_eq_true (by kernel_rfl)) (by unfold Func.isWrapper;first | (rw[if_pos (by decide +kernel)];kernel_rfl) | (rw[if_neg (by decide +kernel)];exact⟨rfl,rfl⟩))
  (fun os started H enc _=>zKo os started H enc)
theorem learnSteps_card:Rows.LearnStepsCardSaid :=
 Claim7.holds_tied_plain_at .later [] [.data] true (true,Rows.learnStepsCard.stood.harness.2) true
  zEu (fun _ h=>by cases h) (by kernel_rfl) (fun _ h=>by cases h) learnSteps_row_tie rfl ⟨rfl,rfl⟩ (by kernel_rfl) rfl
  (fun f fn hf hfn=>by
    obtain rfl:f=3:=Option.some.inj ((show Tryz.prog.funcNamed "cordon/cordonlaw.LearnSteps" = some 3 by kernel_rfl).symm.trans hf) |>.symm
    obtain rfl:fn=Tryz.f3:=(Option.some.inj (Tryz.func3.symm.trans hfn)).symm
    exact⟨by kernel_rfl,fun j t ht=>by
     rw[Tryz.params3] at ht
     have hm:t∈[25,26,27]:=by simpa using Array.mem_of_getElem? ht
     have hall:([25,26,27].all fun u=>!Tryz.prog.wantsStandIn u)=true:=by kernel_rfl
     exact (show Tryz.prog.wantsStandIn t=false by simpa using List.all_eq_true.1 hall t hm)⟩)
  (by kernel_rfl)
end Go.Proofs.YtndcpnlaadikoaaGreatDoor
