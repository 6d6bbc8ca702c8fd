/- ReportVerifies is true at every input: Verify answers just what the document says, errors too. No condition of its own (the row lists package-level variables of the standard library; the card ties them to the program's text). -/
import Derived.Test.YtndcpnlaadikoaaGreatDoorPartBu
import Derived.Test.YtndcpnlaadikoaaGreatDoorTie
import Derived.Test.YtndcpnlaadikoaaGreatDoorCards
import Derived.LaidMore
set_option maxRecDepth 100000
set_option maxHeartbeats 1600000
open Go.Proofs.Tryz
namespace Go.Proofs.YtndcpnlaadikoaaGreatDoor
open Go.ChangeShapes Go.WideShapes Go.ChangeAt Go.RowKit Go.Deep
open Go.ChangeMaps (open_string shut_string)
theorem fJ:ownKnob prog.godebug=none:=by kernel_rfl
theorem xF:laidOutB prog=true:=by kernel_rfl
theorem qo:prog.globalNamed "math/bits.deBruijn64tab" = some 0:=by kernel_rfl
theorem fI:(prog.globals[0]?).map (·.type)=some 304:=by kernel_rfl
def AO:List Int:=Lib.deBruijn64tab.map Int.ofNat
theorem fH:(Rows.laid_math_bits_deBruijn64tab:DataW Unit)=Lib.tabData .u8 AO:=by rfl
theorem fG:prog.globalNamed "internal/strconv.uint64pow10" = some 1:=by kernel_rfl
theorem fF:(prog.globals[1]?).map (·.type)=some 320:=by kernel_rfl
theorem fD:(Rows.laid_internal_strconv_uint64pow10:DataW Unit)=Lib.tabData .u64 Lib.pow10Tab:=by rfl
theorem qn {W:World} (h:laidMetH prog Rows.reportVerifiesRow.laid W):TabT W/\TabP W:=by
 rw[MakeChecks.laidMetH_plain _ _ _ (by kernel_rfl)] at h
 obtain⟨ps,⟨g0,t0,cs0,f0,p0,q0,Ua,ht0,Lj,fC,⟨g1,t1,cs1,f1,p1,q1,hg1,ht1,hv1,hd1,⟨g2,t2,cs2,f2,p2,q2,hg2,ht2,hv2,hd2,_,_⟩,_⟩,_⟩,_,_⟩:=h;obtain rfl:=Zl (qo.symm.trans hg1);obtain rfl:=Zl (fI.symm.trans ht1);obtain rfl:=Zl (fG.symm.trans hg2);obtain rfl:=Zl (fF.symm.trans ht2);have hT:Lib.TabIs prog W "math/bits.deBruijn64tab" .u8 AO:=by
  unfold Lib.TabIs;rw[hv1];rw[fH] at hd1;have:=Lib.cells_of_tab (e:=5) (n:=64) underlying304 underlying5 (by kernel_rfl) (by kernel_rfl) hd1
  rw[<-this]
 have hN:Lib.TabIs prog W "internal/strconv.uint64pow10" .u64 Lib.pow10Tab:=by
  unfold Lib.TabIs;rw[hv2];rw[fD] at hd2;have:=Lib.cells_of_tab (e:=135) (n:=20) underlying320 underlying135 (by kernel_rfl) (by kernel_rfl) hd2
  rw[<-this]
 refine⟨λj hj=>?_,hN⟩
 have:=hT.cell qo j (by simpa[AO] using hj)
 rw[this];simp[AO,hj]
theorem fB (os:Os) (args:Array Value):laidMetH prog Rows.reportVerifiesRow.laid ((World.doorLaid prog 400 os).forCall (λ_ _=>0) ⟨#[],args,[]⟩).memory :=
 laidMetH_of_parts3 (fuel:=8) (laidMet_of_run' 8 (by kernel_rfl) (by kernel_rfl)) (by kernel_rfl) (by kernel_rfl)
theorem fA (os:Os) (started:os.Started) (H:Type) (enc:TypeId×Value->H) :
 ReturnsInHanded {} Tryz.checked os 4 .any (λw args=>(Rows.reportVerifiesSpec.pre enc prog Tryz.f4 [] false w args/\laidMetH prog Rows.reportVerifiesRow.laid w)/\sizedMet enc prog Tryz.f4 (OpenSpec.ofChange Rows.reportVerifiesSpec) false w args)
  (Rows.reportVerifiesSpec.post enc prog Tryz.f4 false true false false):=by
 refine returnsInHanded_of_change_and (C:=Tryz.checked) (X:=λw _=>laidMetH prog Rows.reportVerifiesRow.laid w) (λ_ _ _ hh h=>h.of_heap hh) fJ started (by kernel_rfl) func4
  (ChangeSpec.witness_shaped (enc:=enc) (C:=Tryz.checked) (os:=os) (X:=λw _=>laidMetH prog Rows.reportVerifiesRow.laid w) false (World.doorLaid prog 400 os) #[.string ⟨#[]⟩,.slice none 0 0,.slice none 0 0] 8 rfl (World.shaped_of_RefB (by kernel_rfl) (by kernel_rfl)) (by kernel_rfl) (by kernel_rfl) (by kernel_rfl) (fB os _)) ?_
 intro W base args ds gs before JJ hW _ _ hL _;have VI:∀(j:Nat) t v,Tryz.f4.params[j]? = some t->args[j]? = some v->Value.okWide prog W .any base t v:=JJ;have ql:=hW;obtain⟨p,q,qk,hV,rfl,fy,PL⟩:=hW;have hA:DataW.TrodAll enc prog W 0 (λ_=>true) true Tryz.f4.params.toList args.toList ds p:=qk
 rw[params4] at hA VI;obtain⟨v0,vs0,d0,ds0,p0,q0,qj,rfl,rfl,h0,r0⟩:=trodAll_cons hA;obtain⟨v1,vs1,d1,ds1,p1,q1,rfl,rfl,rfl,h1,r1⟩:=trodAll_cons r0;obtain⟨v2,vs2,d2,ds2,p2,q2,rfl,rfl,rfl,h2,r2⟩:=trodAll_cons r1;obtain⟨rfl,rfl,rfl⟩:=trodAll_nil r2;obtain rfl:args=#[v0,v1,v2]:=by cases args;simp_all
 obtain⟨rfl,rfl⟩:=trodVars_none hV;have k0:=h0;have k1:=h1;have k2:=h2;have lt0:∀x∈p0,x.block<W.heap.size:=by obtain⟨m,hm⟩:=k0;exact DataW.trod_lt m _ _ _ hm
 have lt1:∀x∈p1,x.block<W.heap.size:=by obtain⟨m,hm⟩:=k1;exact DataW.trod_lt m _ _ _ hm
 have lt2:∀x∈p2,x.block<W.heap.size:=by obtain⟨m,hm⟩:=k2;exact DataW.trod_lt m _ _ _ hm
 obtain⟨s0,rfl,rfl,rfl,T_⟩:=open_string underlying9 (VI 0 9 v0 rfl rfl) h0;obtain⟨f1,W9⟩:=h1;obtain⟨u1,l1,e1,i1⟩:=fx W9;obtain⟨a1,n1,c1,rfl⟩:=okWide_slice underlying42 (VI 1 42 v1 rfl rfl);obtain rfl:u1=.slice a1 n1 c1:=by simpa[Value.cells] using e1.symm
 obtain⟨f2,Ye⟩:=h2;obtain⟨u2,l2,e2,i2⟩:=fw Ye;obtain⟨a2,n2,c2,rfl⟩:=okWide_slice qi (VI 2 32 v2 rfl rfl);obtain rfl:u2=.slice a2 n2 c2:=by simpa[Value.cells] using e2.symm
 clear qk JJ;simp only[TA] at ql;refine (fv s0 l1 l2 _ _ W T_ i1 i2 (qn hL).1 (qn hL).2).mono λe W' ⟨he,bel⟩=>?_
 subst he;exact⟨_,rfl,_,_,_,[],_,[],ql,trodAll_mk1 (shut_bool underlying4 _),
  (trodAll_cons_mk (Below.trod xF (by kernel_rfl) (of_decide_eq_true (by kernel_rfl)) k0 bel lt0) (trodAll_cons_mk (Below.trod xF (by kernel_rfl) (of_decide_eq_true (by kernel_rfl)) k1 bel lt1) (trodAll_cons_mk (Below.trod xF (by kernel_rfl) (of_decide_eq_true (by kernel_rfl)) k2 bel lt2) trodAll_mk0))),rfl,bel.frame _,λh=>by cases h⟩
theorem ft:Rows.ReportVerifiesSaid :=
 OpenClaim.holds_of_wide 4 Tryz.f4 rfl rfl rfl rfl rfl rfl rfl ⟨rfl,rfl,rfl,rfl,rfl⟩ rfl rfl rfl rfl rfl (by kernel_rfl) func4 (by kernel_rfl)
  (of_decide_eq_true (by kernel_rfl)) (by unfold Func.isWrapper;first | (rw[if_pos (by decide +kernel)];kernel_rfl) | (rw[if_neg (by decide +kernel)];exact⟨rfl,rfl⟩))
  (λos started H enc _=>fA os started H enc)
theorem reportVerifies_card:Rows.ReportVerifiesCardSaid :=
 Claim7.holds_tied_plain_at .later [] [.data,.data,.data,.sentinel,.sentinel] true (true,Rows.reportVerifiesCard.stood.harness.2) true
  ft (λ_ h=>by cases h) (by kernel_rfl) (λ_ h=>by cases h) reportVerifies_row_tie rfl ⟨rfl,rfl⟩ (by kernel_rfl) rfl
  (λf fn hf xE=>by
    obtain rfl:f=4:=Zl ((show prog.funcNamed "cordon/cordonlaw.ReportVerifies" = some 4 by kernel_rfl).symm.trans hf) |>.symm
    obtain rfl:fn=Tryz.f4:=(Zl (func4.symm.trans xE)).symm;exact⟨by kernel_rfl,λj t ht=>by
     rw[params4] at ht;have hm:t∈[9,42,32]:=by simpa using Array.mem_of_getElem? ht
     have hall:([9,42,32].all λu=>!prog.wantsStandIn u)=true:=by kernel_rfl
     exact (show prog.wantsStandIn t=false by simpa using W8.1 hall t hm)⟩)
  (by kernel_rfl)
end Go.Proofs.YtndcpnlaadikoaaGreatDoor
