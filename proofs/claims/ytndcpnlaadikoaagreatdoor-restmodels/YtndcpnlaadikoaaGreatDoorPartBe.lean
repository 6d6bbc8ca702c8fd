/- What the proof leans on, part 31. -/
import Derived.Test.YtndcpnlaadikoaaGreatDoorPartAu
import Derived.Test.YtndcpnlaadikoaaGreatDoorPartAw
import Derived.Test.YtndcpnlaadikoaaGreatDoorPartBd
import Derived.Deep.DeepCutAuto
set_option maxRecDepth 100000
set_option maxHeartbeats 6400000
namespace Go.Proofs.YtndcpnlaadikoaaGreatDoor
open Go.RowKit
structure EaB where
 bV:Nat
 bT:Nat
 bM:Nat
 bD:Nat
 bB:Nat
 bF:Nat
 bR:Nat
 B:Nat
 N:Nat
 FT:Nat
 c1:Value
 sv:Value
 dv:Nat→Value
def EaB.caps (q:EaB):Array Value:=#[.pointer (some ⟨q.bV,0,none⟩),.pointer (some ⟨q.bT,0,none⟩),.pointer (some ⟨q.bM,0,none⟩),.pointer (some ⟨q.bD,0,none⟩),.pointer (some ⟨q.bB,0,none⟩),.pointer (some ⟨q.bF,0,none⟩)]
structure EaAt (q:EaB) (vs:List MVar) (cons:List MCon) (vals:List Int) (w:World):Prop where
 len:vals.length=vs.length
 own:w.ownsRow q.N 3 1 (.slice (some ⟨q.bR,0,none⟩) vs.length vs.length) vs.length (vals.map (Value.int .i64))
 cV:w.cell? ⟨q.bV,0,none⟩=some (.slice (some ⟨q.bR,0,none⟩) vs.length vs.length)
 cT:w.cell? ⟨q.bT,0,none⟩=some (.func (.func q.FT) #[] #[q.c1])
 cM:w.cell? ⟨q.bM,0,none⟩=some q.sv
 mv:VArg w q.sv vs
 cD:w.cell? ⟨q.bD,0,none⟩=some (.slice (some ⟨q.B,0,none⟩) vs.length vs.length)
 due:∀v,v<vs.length→w.cell? ⟨q.B,v,none⟩=some (q.dv v)∧CArg w (q.dv v) (dueP cons v)
 cB:w.cell? ⟨q.bB,0,none⟩=some (.func (.func 129) #[] #[.pointer (some ⟨q.bV,0,none⟩)])
 cF:w.cell? ⟨q.bF,0,none⟩=some (.func (.func 130) #[] q.caps)
structure Told9 {σ:Type} (q:EaB) (vs:List MVar) (cons:List MCon) (tell:σ→List Int→Bool×σ) (J:σ→List Int→World→Prop):Prop where
 enters:∀(args:Array Value) (w':World),Sem.run Tryz.prog (callFunc q.FT args) w'=.ok (.enter q.FT args) w'
 at9:∀s vals w,J s vals w→EaAt q vs cons vals w
 below:∀s vals w w',J s vals w→Below w.heap.size w w'→J s vals w'
 set:∀s vals w v x,J s vals w→v<vs.length→J s (vals.set v x) (w.setCell ⟨q.bR,v,none⟩ (.int .i64 x))
 call:∀s vals w,J s vals w→Calls Tryz.prog q.FT #[.slice (some ⟨q.bR,0,none⟩) vs.length vs.length,q.c1] w fun e w'=>e=.returned (.bool (tell s vals).1)∧J (tell s vals).2 vals w'
theorem zRV {σ:Type} (tell:σ→List Int→Bool×σ) (x:List Int) (s:σ):runT tell [x] s=tell s x:=by
 unfold runT;cases h:(tell s x).1
 ·simp only[Bool.false_eq_true,if_false]
  rw[←h]
 ·simp only[if_true,runT]
  rw[←h]
theorem zRW {σ:Type} (q:EaB) (m:Mod) (tell:σ→List Int→Bool×σ) (J:σ→List Int→World→Prop) (hJ:Told9 q m.vars m.cons tell J) (vals:List Int) (s:σ) (w:World) (hI:J s vals w) :
 Calls Tryz.prog 130 (#[.int .i64 (m.vars.length:Int)]++q.caps) w fun e w'=>e=.returned (.bool (tell s vals).1)∧J (tell s vals).2 vals w':=by
 have HJ:Hid (Told9 q m.vars m.cons tell J):=hJ;have HI:Hid (J s vals w):=hI;obtain⟨hlen,hown,cV,cT,cM,mv,cD,hdue,cB,cF⟩:=hJ.at9 s vals w hI;obtain⟨T,hT⟩:∃T,tell s vals=T:=⟨_,rfl⟩;rw[hT];have HT:Hid (tell s vals=T):=hT;have lV:=World.block_lt_of_cell? w _ cV;have lT:=World.block_lt_of_cell? w _ cT;have HC:Hid (Calls Tryz.prog q.FT #[.slice (some ⟨q.bR,0,none⟩) m.vars.length m.vars.length,q.c1] w fun e w'=>e=.returned (.bool T.1)∧J T.2 vals w'):=by
  rw[←hT];exact hJ.call s vals w hI
 unfold EaB.caps;clear hI hJ hT cM mv cD hdue cB cF hown;go_enter Tryz.func130,Tryz.ntmps130
 go_wp2_with fail
 rw[HJ.out.enters,Oper.upon_enter];refine HC.out.mono ?_;rintro e w1 ⟨rfl,hb1⟩;have H1:Hid (J T.2 vals w1):=hb1;obtain⟨T1,T2⟩:=T;go_wp2
 go_ret
 exact⟨rfl,H1.out⟩
def zOE (vs:List MVar) (u:List Int):Prop:=∀i:Nat,i<u.length→(zAJ vs i).lo≤zAf u (i:Int)∧zAf u (i:Int)≤(zAJ vs i).hi
theorem zI6 (vs:List MVar) (u:List Int) (x:Int) (h:zOE vs u) (h1:(zAJ vs u.length).lo≤x) (h2:x≤(zAJ vs u.length).hi):zOE vs (u++[x]):=by
 intro i hi;rw[List.length_append,List.length_singleton] at hi;unfold zAf;rw[Int.toNat_natCast,List.getD_eq_getElem?_getD];by_cases he:i=u.length
 ·subst he
  rw[List.getElem?_concat_length];exact⟨h1,h2⟩
 ·have:=h i (by omega)
  unfold zAf at this;rw[Int.toNat_natCast,List.getD_eq_getElem?_getD] at this;rw[List.getElem?_append_left (by omega)]
  exact this
theorem zTF (m:Mod) (hm:zAG m=0) (c:MCon) (hc:c∈m.cons) (vals u:List Int) (hl:zCW c<u.length) (ht:vals.take u.length=u) (hu:u.length≤m.vars.length) (hp:zOE m.vars u):∀x∈ownV c.vars vals,-50≤x∧x≤50:=by
 intro x hx;obtain⟨i,hi,rfl⟩:=List.mem_map.1 hx;obtain⟨j,hj⟩:=List.mem_iff_getElem?.1 hc;obtain⟨h1,_⟩:=zC9 m hm j c hj;have hs:i∈zAk c:=(zFh c i).2 (List.mem_append_left _ hi);have h3:=zM5 _ (zGk c) i hs;have h4:=(h1 i hs).1;unfold zCW at hl;obtain⟨k,rfl⟩:∃k:Nat,i=(k:Int):=⟨i.toNat,by omega⟩
 have hk:k<u.length:=by omega
 have e:zAf vals (k:Int)=zAf u (k:Int):=by
  unfold zAf;have e2:=congrArg (fun l=>l[k]?) ht
  simp only[List.getElem?_take_of_lt hk] at e2;rw[Int.toNat_natCast,List.getD_eq_getElem?_getD,List.getD_eq_getElem?_getD,e2]
 rw[e];have:=hp k hk;have:=zCe m hm k (by omega)
 omega
theorem zNC (vals:List Int) (v:Nat) (pre:List Int) (y:Int) (hv:v<vals.length) (h:vals.take v=pre):(vals.set v y).take (v+1)=pre++[y]:=by
 rw[List.take_add_one,List.getElem?_set_self hv,List.take_set_of_le (Nat.le_refl _),h];rfl
theorem zFw (vals:List Int) (v:Nat) (pre:List Int) (x:Int) (hp:pre.length=v) (h:vals.take (v+1)=pre++[x]):vals.take v=pre∧vals[v]? = some x:=by
 have h1:=congrArg (List.take v) h;rw[List.take_take,Nat.min_eq_left (Nat.le_succ _),List.take_append_of_le_length (by omega)] at h1
 have h3:pre.take v=pre:=List.take_of_length_le (by omega)
 rw[h3] at h1;refine⟨h1,?_⟩;have h2:=congrArg (fun l=>l[v]?) h
 simp only[List.getElem?_take_of_lt (show v<v+1 by omega)] at h2
 rw[h2,←hp,List.getElem?_concat_length]
def FrI {σ:Type} (m:Mod) (tell:σ→List Int→Bool×σ) (J:σ→List Int→World→Prop) (v k:Nat) (pre:List Int) (R:Bool×σ) (wr:World) (n:Nat):Prop :=
 ∃(x:Int) (vals:List Int) (s:σ),(zAJ m.vars v).lo≤x∧x≤(zAJ m.vars v).hi+1∧n=((zAJ m.vars v).hi+1 - x).toNat∧J s vals wr∧vals.take (v+1)=pre++[x]∧runT tell ((zEM x (zAJ m.vars v).hi).flatMap (fL m.vars m.cons k pre)) s=R
theorem hid0 {p:Prop} (h:p):Hid p:=h
theorem zRX {σ:Type} (q:EaB) (m:Mod) (hm:zAG m=0) (tell:σ→List Int→Bool×σ) (J:σ→List Int→World→Prop) (hJ:Told9 q m.vars m.cons tell J):∀(k v:Nat) (pre vals:List Int) (s:σ) (w:World),v+k=m.vars.length→pre.length=v→vals.take v=pre→zOE m.vars pre→J s vals w →
 Calls Tryz.prog 130 (#[.int .i64 (v:Int)]++q.caps) w fun e w'=>e=.returned (.bool (runT tell (zEA m.vars m.cons k pre) s).1)∧∃vals',vals'.take v=pre∧J (runT tell (zEA m.vars m.cons k pre) s).2 vals' w':=by
 intro k
 induction k with
 | zero =>
   intro v pre vals s w hvk hpl htk hpo hI;have hle:=(hJ.at9 s vals w hI).len;have hvp:vals=pre:=by rw[←htk,List.take_of_length_le (by omega)]
   subst hvp;have hvn:v=m.vars.length:=by omega
   subst hvn;refine (zRW q m tell J hJ vals s w hI).mono ?_;intro e w' h;rw[zEA,zRV];exact⟨h.1,vals,htk,h.2⟩
 | succ k ih =>
   intro v pre vals s w hvk hpl htk hpo hI;have HJ:Hid (Told9 q m.vars m.cons tell J):=hJ;have HIH:Hid (∀(v:Nat) (pre vals:List Int) (s:σ) (w:World),v+k=m.vars.length→pre.length=v→vals.take v=pre→zOE m.vars pre→J s vals w →
    Calls Tryz.prog 130 (#[.int .i64 (v:Int)]++q.caps) w fun e w'=>e=.returned (.bool (runT tell (zEA m.vars m.cons k pre) s).1)∧∃vals',vals'.take v=pre∧J (runT tell (zEA m.vars m.cons k pre) s).2 vals' w'):=ih
   have hvn:v<m.vars.length:=by omega
   have HPO:Hid (zOE m.vars pre):=hpo;have HPL:Hid (pre.length=v):=hpl;have HVK:Hid (v+(k+1)=m.vars.length):=hvk;have hbd:=zCe m hm v hvn;have HRR:Hid (zEA m.vars m.cons (k+1) pre=(zEM (zAJ m.vars v).lo (zAJ m.vars v).hi).flatMap (fL m.vars m.cons k pre)):=by
    show _=_;rw[zPX,hpl]
   obtain⟨R,hR⟩:∃R,runT tell (zEA m.vars m.cons (k+1) pre) s=R:=⟨_,rfl⟩;rw[hR];rw[HRR.out] at hR;have HR:=(show Hid _ from hR)
   obtain⟨hlen,hown,cV,cT,cM,mv,cD,hdue,cB,cF⟩:=hJ.at9 s vals w hI;obtain⟨a1,c1,hsv,_,hvr⟩:=mv;have hvv:m.vars[v]? = some (zAJ m.vars v):=by unfold zAJ;rw[List.getD_eq_getElem?_getD,List.getElem?_eq_getElem hvn];rfl
   obtain⟨_,bv,ov,hav,hlv,_,e1,e2⟩:=hvr v _ hvv;subst hav;rw[hsv] at cM;obtain⟨lo,hlo⟩:∃lo,(zAJ m.vars v).lo=lo:=⟨_,rfl⟩;obtain⟨hi,hhi⟩:∃hi,(zAJ m.vars v).hi=hi:=⟨_,rfl⟩;have hvo:=zHG m hm v _ hvv;have HRI:Hid (∀(wr:World) (n:Nat),FrI m tell J v k pre R wr n→∃(x:Int) (vals:List Int) (s:σ),lo≤x∧x≤hi+1∧n=(hi+1 - x).toNat∧J s vals wr∧vals.take (v+1)=pre++[x]∧runT tell ((zEM x hi).flatMap (fL m.vars m.cons k pre)) s=R):=fun wr n h=>by
    rw[←hlo,←hhi];exact h
   have HIR:Hid (∀(wr:World) (x:Int) (vals:List Int) (s:σ),lo≤x→x≤hi+1→J s vals wr→vals.take (v+1)=pre++[x]→runT tell ((zEM x hi).flatMap (fL m.vars m.cons k pre)) s=R→FrI m tell J v k pre R wr (hi+1 - x).toNat):=fun wr x vals s h1 h2 h3 h4 h5=>by
    rw[←hlo] at h1;rw[←hhi] at h2 h5 ⊢;exact⟨x,vals,s,h1,h2,rfl,h3,h4,h5⟩
   have HM:Hid (zAG m=0):=hm;have HSV:Hid (q.sv=.slice (some ⟨bv,ov,none⟩) m.vars.length c1):=hsv;have HVR:Hid (∀Y,VArg Y q.sv m.vars→bv<Y.heap.size∧Y.cell? ⟨bv,ov+v * 3+1,none⟩=some (.int .i64 lo)∧Y.cell? ⟨bv,ov+v * 3+2,none⟩=some (.int .i64 hi)):=fun Y hY=>by
    obtain⟨a',c',h1,_,h2⟩:=hY;rw[hsv] at h1
    injection h1 with h3 _ _
    obtain⟨_,b',o',h4,h5,_,h6,h7⟩:=h2 v _ hvv;rw[←h3] at h4
    injection h4 with h4
    injection h4 with h8 h9
    subst h8 h9;rw[hlo] at h6;rw[hhi] at h7;exact⟨h5,h6,h7⟩
   have HLH:Hid (lo=(zAJ m.vars v).lo∧hi=(zAJ m.vars v).hi):=⟨hlo.symm,hhi.symm⟩;have hn6:m.vars.length≤6:=(zAe m hm).2.1;have hlh:lo≤hi:=by omega
   have hlo50:-50≤lo:=by omega
   have hhi50:hi≤50:=by omega
   rw[hlo] at e1;rw[hlo,hhi] at HR;have lV:=World.block_lt_of_cell? w _ cV;have lM:=World.block_lt_of_cell? w _ cM;have lR:q.bR<w.heap.size:=(hown.lt q.bR rfl).2;have hcv:w.frozen? ⟨q.bR,v,none⟩=false:=hown.frozenAt v;obtain⟨z0,hz0⟩:∃z0,vals[v]? = some z0:=⟨vals[v]'(by omega),by rw[List.getElem?_eq_getElem (by omega)]⟩
   have hc0:w.cell? ⟨q.bR,v,none⟩=some (.int .i64 z0):=by rw[hown.cellAt v (by omega),List.getElem?_map,hz0];rfl
   have HS1:Hid (J s (vals.set v lo) ((w.setCell ⟨q.bR,v,none⟩ (.int .i64 lo)).drew)):=hJ.below s _ _ _ (hJ.set s vals w v lo hI hvn) (Below.refl _ _).drew;have HTK:Hid ((vals.set v lo).take (v+1)=pre++[lo]):=zNC vals v pre lo (by omega) htk
   have p1:(v:Int)<(m.vars.length:Int):=by omega
   have p2:((v:Int)==(m.vars.length:Int))=false:=by simp only[beq_eq_false_iff_ne,ne_eq];omega
   unfold EaB.caps;clear hz0 hI hJ hsv hvr hvv hown hdue cB cF cD cT hpo htk hlo hhi hR ih hvo hbd;go_enter Tryz.func130,Tryz.ntmps130
   go_wp2_with fail
   go_cut [] (fun wx=>Hid (J s (vals.set v lo) wx))
   case first =>
    go_region_law (fail)
    all_goals (go_wp2_with fail;go_meet)
    all_goals exact HS1.out
   case rest =>
    have HS2:Hid (J s (vals.set v lo) wc):=hcut;clear hcut HS1 cV cM e1 e2 lV lM lR hcv hc0;go_wp2_with fail
    go_loopw [] (fun wr=>∃n,FrI m tell J v k pre R wr n) (fun wr=>zCh (FrI m tell J v k pre R wr))
    case atStart=>exact⟨_,HIR.out wc lo _ s (Int.le_refl _) (by omega) HS2.out HTK.out HR.out⟩
    case round =>
     have hsp:=zEj hrel;obtain⟨NN,hNN⟩:∃NN,zCh (FrI m tell J v k pre R wr)=NN:=⟨_,rfl⟩;have HNN:Hid (zCh (FrI m tell J v k pre R wr)=NN):=hNN;rw[hNN] at hsp;obtain⟨x,vls,st,hx1,hx2,hn,hJw,htk,hrun⟩:=HRI.out _ _ hsp;clear hrel hsp hNN;obtain⟨hlen1,hown,cV,cT,cM,mv,cD,hdue,cB,cF⟩:=HJ.out.at9 st vls wr hJw;obtain⟨tl1,tl2⟩:=zFw vls v pre x HPL.out htk;obtain⟨lbv,e1,e2⟩:=HVR.out wr mv;rw[HSV.out] at cM;have hcx:wr.cell? ⟨q.bR,v,none⟩=some (.int .i64 x):=by rw[hown.cellAt v (by omega),List.getElem?_map,tl2];rfl
     have lV:=World.block_lt_of_cell? wr _ cV;have lM:=World.block_lt_of_cell? wr _ cM;have lR:q.bR<wr.heap.size:=(hown.lt q.bR rfl).2;have HJW:Hid (J st vls wr):=hJw;have HTL:Hid (vls.take v=pre):=tl1;have HTW:Hid (vls.take (v+1)=pre++[x]):=htk;have HRW:Hid (runT tell ((zEM x hi).flatMap (fL m.vars m.cons k pre)) st=R):=hrun;have HN:Hid (NN=(hi+1 - x).toNat):=hn;clear hJw htk hrun hn tl1 tl2 mv hlen1 cT cF;by_cases hxh:x≤hi
     ·obtain⟨cdx,hda⟩:=hdue v hvn
      obtain⟨dx,hdx⟩:∃dx,q.dv v=dx:=⟨_,rfl⟩;have HDX:Hid (q.dv v=dx):=hdx;rw[hdx] at cdx hda;obtain⟨a8,c8,hdx8,_,_⟩:=hda;obtain⟨n8,hn8⟩:∃n8,(dueP m.cons v).length=n8:=⟨_,rfl⟩;rw[hn8] at hdx8;subst hdx8;have HS:Hid (∀Y s vals,J s vals Y→Y.cell? ⟨q.bD,0,none⟩=some (.slice (some ⟨q.B,0,none⟩) m.vars.length m.vars.length)∧Y.cell? ⟨q.B,v,none⟩=some (.slice a8 n8 c8)∧Y.cell? ⟨q.bB,0,none⟩=some (.func (.func 129) #[] #[.pointer (some ⟨q.bV,0,none⟩)])∧Y.cell? ⟨q.bF,0,none⟩=some (.func (.func 130) #[] q.caps)):=fun Y s vals hY=>by
       have hz:=HJ.out.at9 s vals Y hY;exact⟨hz.cD,by rw[←HDX.out];exact (hz.due v hvn).1,hz.cB,hz.cF⟩
      have HCF:Hid (∀Y,J st vls Y→Calls Tryz.prog 131 #[.slice a8 n8 c8,.func (.func 129) #[] #[.pointer (some ⟨q.bV,0,none⟩)]] Y fun e w'=>e=.returned (.bool (!okD m.cons v (pre++[x])))∧J st vls w'):=fun Y hY=>by
       have hz:=HJ.out.at9 st vls Y hY;have hz2:=(hz.due v hvn).2;rw[HDX.out] at hz2;refine (zIM 129 _ (fun c=>!zAR c vls) (dueP m.cons v) _ Y hz2 ⟨zJk,fun t vv vc vr vl w' ht hb hk=>?_⟩).mono ?_
       ·obtain⟨ht1,ht2⟩:=List.mem_filter.1 ht
        have hl9:zCW t=v:=by simpa using ht2
        obtain⟨j,hj⟩:=List.mem_iff_getElem?.1 ht1;have ho:=hz.own;rw[←hz.len] at ho;refine zN0 t vls vv vc vr vl _ q.bV w' hk (zDa (zAB ho hb)) (by rw[hz.len];exact zGa m HM.out j t hj) (zTF m HM.out t ht1 vls (pre++[x]) ?_ ?_ ?_ ?_) ((hb.cell (World.block_lt_of_cell? Y _ hz.cV)).trans (by rw[hz.cV,hz.len]))
        ·rw[List.length_append,HPL.out,hl9];simp
        ·rw[List.length_append,HPL.out];exact HTW.out
        ·rw[List.length_append,HPL.out];simp;omega
        ·exact zI6 m.vars pre x HPO.out (by rw[HPL.out];exact (HLH.out).1▸hx1) (by rw[HPL.out];exact (HLH.out).2▸hxh)
       ·rintro e w' ⟨rfl,hb⟩
        exact⟨by rw[zNz m HM.out v vls (pre++[x]) HTW.out],HJ.out.below _ _ _ _ hY hb⟩
      have hwx:IntKind.i64.wrap (x+1)=x+1:=by rw[IntKind.wrap_i64];omega
      have hwv:IntKind.i64.wrap ((v:Int)+1)=((v+1:Nat):Int):=by rw[IntKind.wrap_i64];omega
      have hx50:x≤50:=by omega
      have HSP:Hid (runT tell (fL m.vars m.cons k pre x++(zEM (x+1) hi).flatMap (fL m.vars m.cons k pre)) st=R):=by
       show _=_;rw[←HRW.out,zPY x hi hxh,List.flatMap_cons]
      have HGO:Hid (∀(Y:World) (s':σ) (vals':List Int),J s' vals' Y→vals'.take (v+1)=pre++[x]→runT tell ((zEM (x+1) hi).flatMap (fL m.vars m.cons k pre)) s'=R→FrI m tell J v k pre R (Y.setCell ⟨q.bR,v,none⟩ (.int .i64 (x+1))) (hi+1 - (x+1)).toNat):=fun Y s' vals' h1 h2 h3=>by
       have hle:=(HJ.out.at9 s' vals' Y h1).len;exact HIR.out _ (x+1) (vals'.set v (x+1)) s' (by omega) (by omega) (HJ.out.set s' vals' Y v (x+1) h1 hvn) (zNC vals' v pre (x+1) (by omega) (zFw vals' v pre x HPL.out h2).1) h3
      have HLT:Hid ((hi+1 - (x+1)).toNat<NN):=by
       show _<_;rw[HN.out];omega
      have HCR:Hid (∀Y s' vals',J s' vals' Y→vals'.take (v+1)=pre++[x]→Y.cell? ⟨q.bV,0,none⟩=some (.slice (some ⟨q.bR,0,none⟩) m.vars.length m.vars.length)∧Y.cell? ⟨q.bR,v,none⟩=some (.int .i64 x)∧Y.frozen? ⟨q.bR,v,none⟩=false∧q.bV<Y.heap.size∧q.bR<Y.heap.size):=fun Y s' vals' h1 h2=>by
       have hz:=HJ.out.at9 s' vals' Y h1;refine⟨hz.cV,?_,hz.own.frozenAt v,World.block_lt_of_cell? Y _ hz.cV,(hz.own.lt q.bR rfl).2⟩;rw[hz.own.cellAt v (by omega),List.getElem?_map,(zFw vals' v pre x HPL.out h2).2];rfl
      clear hdue hown;cases hok:okD m.cons v (pre++[x])
      ·have HR2:Hid (runT tell ((zEM (x+1) hi).flatMap (fL m.vars m.cons k pre)) st=R):=by
        have h:=HSP.out;rw[show fL m.vars m.cons k pre x=[] by unfold fL;rw[HPL.out,hok];rfl] at h
        exact h
       rw[hok] at HCF;clear hok HSP HRW;go_wp2
       go_quiet (fail)
       go_wp2_with fail
       have HJ0:=hid0 (HJ.out.below _ _ _ _ HJW.out (below_drewN (Below.refl _ _) nq));have hHeld0:=HS.out _ _ _ (HJ.out.below _ _ _ _ HJ0.out (Below.refl _ _).drew);refine wp_region_held_drew (S:=fun Y=>Y.cell? ⟨q.bD,0,none⟩=some (.slice (some ⟨q.B,0,none⟩) m.vars.length m.vars.length)∧Y.cell? ⟨q.B,v,none⟩=some (.slice a8 n8 c8)∧Y.cell? ⟨q.bB,0,none⟩=some (.func (.func 129) #[] #[.pointer (some ⟨q.bV,0,none⟩)])∧Y.cell? ⟨q.bF,0,none⟩=some (.func (.func 130) #[] q.caps)) (by kernel_rfl) hHeld0 (fun hu0=>?_)
       clear hu0;refine wpAnyH_take (i:=0) (v:=?v0) rfl (by kernel_rfl) (by kernel_rfl) (by kernel_rfl) (fun _ _ _ h=>h) (Or.inl ⟨by rfl,?y0⟩) hHeld0 ?r0
       case y0=>intro wq hSw;obtain⟨q0,q1,q2,q3⟩:=hSw;go_simp;with_reducible rfl
       refine wpAnyH_take (i:=1) (v:=?v1) rfl (by kernel_rfl) (by kernel_rfl) (by kernel_rfl) (fun _ _ _ h=>h) (Or.inl ⟨by rfl,?y1⟩) hHeld0 ?r1
       case y1=>intro wq hSw;obtain⟨q0,q1,q2,q3⟩:=hSw;go_simp;with_reducible rfl
       refine wpAnyH_take (i:=2) (v:=?v2) rfl (by kernel_rfl) (by kernel_rfl) (by kernel_rfl) (fun _ _ _ h=>h) (Or.inl ⟨by rfl,?y2⟩) hHeld0 ?r2
       case y2=>intro wq hSw;obtain⟨q0,q1,q2,q3⟩:=hSw;go_simp;with_reducible rfl
       refine wpAnyH_take (i:=3) (v:=?v3) rfl (by kernel_rfl) (by kernel_rfl) (by kernel_rfl) (fun _ _ _ h=>h) (Or.inl ⟨by rfl,?y3⟩) hHeld0 ?r3
       case y3=>intro wq hSw;obtain⟨q0,q1,q2,q3⟩:=hSw;go_simp;with_reducible rfl
       refine wpAnyH_take (i:=4) (v:=?v4) rfl (by kernel_rfl) (by kernel_rfl) (by kernel_rfl) (fun _ _ _ h=>h) (Or.inl ⟨by rfl,?y4⟩) hHeld0 ?r4
       case y4=>intro wq hSw;obtain⟨q0,q1,q2,q3⟩:=hSw;go_simp;with_reducible rfl
       refine wpAnyH_ready (rs:=[5]) (by kernel_rfl) (by simp) ?_
       refine AllReadyH.cons rfl (fun K hK=>?_) AllReadyH.nil
       go_simp
       refine (HCF.out _ (HJ.out.below _ _ _ _ HJ0.out (Below.refl _ _).drew)).mono ?_;rintro e w3 ⟨rfl,hj3⟩
       dsimp only
       have HJ3:=hid0 hj3;have hHeld3:=HS.out _ _ _ hj3;refine hK.out _ _ hHeld3 (fun hu3=>?_)
       clear hu3;clear hK hj3;refine wpAnyH_take (i:=6) (v:=?v6) rfl (by kernel_rfl) (by kernel_rfl) (by kernel_rfl) (fun _ _ _ h=>h) (Or.inl ⟨by rfl,?y6⟩) hHeld3 ?r6
       case y6=>intro wq hSw;obtain⟨q0,q1,q2,q3⟩:=hSw;go_simp;with_reducible rfl
       refine wpAnyH_take (i:=7) (v:=?v7) rfl (by kernel_rfl) (by kernel_rfl) (by kernel_rfl) (fun _ _ _ h=>h) (Or.inl ⟨by rfl,?y7⟩) hHeld3 ?r7
       case y7=>intro wq hSw;obtain⟨q0,q1,q2,q3⟩:=hSw;go_simp;with_reducible rfl
       refine wpAnyH_take (i:=8) rfl (by kernel_rfl) (by kernel_rfl) (by kernel_rfl) (fun _ _ _ h=>h) (Or.inr ⟨by rfl,rfl⟩) hHeld3 ?_
       refine wpAnyH_take (i:=9) rfl (by kernel_rfl) (by kernel_rfl) (by kernel_rfl) (fun _ _ _ h=>h) (Or.inr ⟨by rfl,rfl⟩) hHeld3 ?_
       refine wpAnyH_take (i:=10) rfl (by kernel_rfl) (by kernel_rfl) (by kernel_rfl) (fun _ _ _ h=>h) (Or.inr ⟨by rfl,rfl⟩) hHeld3 ?_
       refine wpAnyH_take (i:=11) rfl (by kernel_rfl) (by kernel_rfl) (by kernel_rfl) (fun _ _ _ h=>h) (Or.inr ⟨by rfl,rfl⟩) hHeld3 ?_
       refine wpAnyH_take (i:=12) rfl (by kernel_rfl) (by kernel_rfl) (by kernel_rfl) (fun _ _ _ h=>h) (Or.inr ⟨by rfl,rfl⟩) hHeld3 ?_
       refine wpAnyH_take (i:=13) (v:=?v13) rfl (by kernel_rfl) (by kernel_rfl) (by kernel_rfl) (fun _ _ _ h=>h) (Or.inl ⟨by rfl,?y13⟩) hHeld3 ?r13
       case y13=>intro wq hSw;obtain⟨q0,q1,q2,q3⟩:=hSw;go_simp;with_reducible rfl
       refine wpAnyH_done (by kernel_rfl) ?_ _
       obtain⟨g1,g2,g3,g4,g5⟩:=HCR.out _ _ _ HJ3.out HTW.out;clear hHeld0 hHeld3;go_simp
       go_wp2_with fail
       exact⟨⟨_,HGO.out _ _ _ HJ3.out HTW.out HR2.out⟩,Nat.lt_of_le_of_lt (zDw (HGO.out _ _ _ HJ3.out HTW.out HR2.out)) (by rw[HNN.out];exact HLT.out)⟩
      ·have HR2:Hid ((if (runT tell (zEA m.vars m.cons k (pre++[x])) st).1 then runT tell ((zEM (x+1) hi).flatMap (fL m.vars m.cons k pre)) (runT tell (zEA m.vars m.cons k (pre++[x])) st).2 else runT tell (zEA m.vars m.cons k (pre++[x])) st)=R):=by
        have h:=HSP.out;rw[zHt] at h;have e:fL m.vars m.cons k pre x=zEA m.vars m.cons k (pre++[x]):=by unfold fL;rw[HPL.out,hok];rfl
        rw[e] at h;exact h
       rw[hok] at HCF;obtain⟨⟨b1,s1⟩,hQ1⟩:∃Q1,runT tell (zEA m.vars m.cons k (pre++[x])) st=Q1:=⟨_,rfl⟩;have HFR:Hid (∀Y,J st vls Y→Calls Tryz.prog 130 (#[.int .i64 ((v:Int)+1)]++q.caps) Y fun e w'=>e=.returned (.bool b1)∧∃vals',vals'.take (v+1)=pre++[x]∧J s1 vals' w'):=fun Y hY=>by
        have h:=HIH.out (v+1) (pre++[x]) vls st Y (by have:=HVK.out;omega) (by rw[List.length_append,HPL.out];rfl) HTW.out (zI6 m.vars pre x HPO.out (by rw[HPL.out];exact (HLH.out).1▸hx1) (by rw[HPL.out];exact (HLH.out).2▸hxh)) hY
        rw[hQ1] at h;have e:((v+1:Nat):Int)=(v:Int)+1:=by omega
        rw[e] at h;exact h
       rw[hQ1] at HR2;clear hok HSP HRW hQ1;go_wp2
       go_quiet (fail)
       go_wp2_with fail
       have HJ0:=hid0 (HJ.out.below _ _ _ _ HJW.out (below_drewN (Below.refl _ _) nq));have hHeld0:=HS.out _ _ _ (HJ.out.below _ _ _ _ HJ0.out (Below.refl _ _).drew);refine wp_region_held_drew (S:=fun Y=>Y.cell? ⟨q.bD,0,none⟩=some (.slice (some ⟨q.B,0,none⟩) m.vars.length m.vars.length)∧Y.cell? ⟨q.B,v,none⟩=some (.slice a8 n8 c8)∧Y.cell? ⟨q.bB,0,none⟩=some (.func (.func 129) #[] #[.pointer (some ⟨q.bV,0,none⟩)])∧Y.cell? ⟨q.bF,0,none⟩=some (.func (.func 130) #[] q.caps)) (by kernel_rfl) hHeld0 (fun hu0=>?_)
       clear hu0;refine wpAnyH_take (i:=0) (v:=?v0b) rfl (by kernel_rfl) (by kernel_rfl) (by kernel_rfl) (fun _ _ _ h=>h) (Or.inl ⟨by rfl,?y0b⟩) hHeld0 ?r0b
       case y0b=>intro wq hSw;obtain⟨q0,q1,q2,q3⟩:=hSw;go_simp;with_reducible rfl
       refine wpAnyH_take (i:=1) (v:=?v1b) rfl (by kernel_rfl) (by kernel_rfl) (by kernel_rfl) (fun _ _ _ h=>h) (Or.inl ⟨by rfl,?y1b⟩) hHeld0 ?r1b
       case y1b=>intro wq hSw;obtain⟨q0,q1,q2,q3⟩:=hSw;go_simp;with_reducible rfl
       refine wpAnyH_take (i:=2) (v:=?v2b) rfl (by kernel_rfl) (by kernel_rfl) (by kernel_rfl) (fun _ _ _ h=>h) (Or.inl ⟨by rfl,?y2b⟩) hHeld0 ?r2b
       case y2b=>intro wq hSw;obtain⟨q0,q1,q2,q3⟩:=hSw;go_simp;with_reducible rfl
       refine wpAnyH_take (i:=3) (v:=?v3b) rfl (by kernel_rfl) (by kernel_rfl) (by kernel_rfl) (fun _ _ _ h=>h) (Or.inl ⟨by rfl,?y3b⟩) hHeld0 ?r3b
       case y3b=>intro wq hSw;obtain⟨q0,q1,q2,q3⟩:=hSw;go_simp;with_reducible rfl
       refine wpAnyH_take (i:=4) (v:=?v4b) rfl (by kernel_rfl) (by kernel_rfl) (by kernel_rfl) (fun _ _ _ h=>h) (Or.inl ⟨by rfl,?y4b⟩) hHeld0 ?r4b
       case y4b=>intro wq hSw;obtain⟨q0,q1,q2,q3⟩:=hSw;go_simp;with_reducible rfl
       refine wpAnyH_ready (rs:=[5]) (by kernel_rfl) (by simp) ?_
       refine AllReadyH.cons rfl (fun K hK=>?_) AllReadyH.nil
       go_simp
       refine (HCF.out _ (HJ.out.below _ _ _ _ HJ0.out (Below.refl _ _).drew)).mono ?_;rintro e w3 ⟨rfl,hj3⟩
       dsimp only
       have HJ3:=hid0 hj3;have hHeld3:=HS.out _ _ _ hj3;refine hK.out _ _ hHeld3 (fun hu3=>?_)
       clear hu3;clear hK hj3;refine wpAnyH_take (i:=6) (v:=?v6b) rfl (by kernel_rfl) (by kernel_rfl) (by kernel_rfl) (fun _ _ _ h=>h) (Or.inl ⟨by rfl,?y6b⟩) hHeld3 ?r6b
       case y6b=>intro wq hSw;obtain⟨q0,q1,q2,q3⟩:=hSw;go_simp;with_reducible rfl
       refine wpAnyH_take (i:=7) (v:=?v7b) rfl (by kernel_rfl) (by kernel_rfl) (by kernel_rfl) (fun _ _ _ h=>h) (Or.inl ⟨by rfl,?y7b⟩) hHeld3 ?r7b
       case y7b=>intro wq hSw;obtain⟨q0,q1,q2,q3⟩:=hSw;go_simp;with_reducible rfl
       refine wpAnyH_take (i:=8) (v:=?v8b) rfl (by kernel_rfl) (by kernel_rfl) (by kernel_rfl) (fun _ _ _ h=>h) (Or.inl ⟨by rfl,?y8b⟩) hHeld3 ?r8b
       case y8b=>intro wq hSw;obtain⟨q0,q1,q2,q3⟩:=hSw;go_simp;with_reducible rfl
       refine wpAnyH_take (i:=9) (v:=?v9b) rfl (by kernel_rfl) (by kernel_rfl) (by kernel_rfl) (fun _ _ _ h=>h) (Or.inl ⟨by rfl,?y9b⟩) hHeld3 ?r9b
       case y9b=>intro wq hSw;obtain⟨q0,q1,q2,q3⟩:=hSw;go_simp;with_reducible rfl
       refine wpAnyH_take (i:=10) (v:=?v10b) rfl (by kernel_rfl) (by kernel_rfl) (by kernel_rfl) (fun _ _ _ h=>h) (Or.inl ⟨by rfl,?y10b⟩) hHeld3 ?r10b
       case y10b=>intro wq hSw;obtain⟨q0,q1,q2,q3⟩:=hSw;go_simp;with_reducible rfl
       refine wpAnyH_ready (rs:=[11]) (by kernel_rfl) (by simp) ?_
       refine AllReadyH.cons rfl (fun K hK=>?_) AllReadyH.nil
       go_simp
       refine (HFR.out _ HJ3.out).mono ?_;rintro e w4 ⟨rfl,vals4,ht4,hj4⟩
       dsimp only
       have HJ4:=hid0 hj4;have HT4:=hid0 ht4;have hHeld4:=HS.out _ _ _ hj4;refine hK.out _ _ hHeld4 (fun hu4=>?_)
       clear hu4;clear hK hj4 ht4;refine wpAnyH_take (i:=12) (v:=?v12b) rfl (by kernel_rfl) (by kernel_rfl) (by kernel_rfl) (fun _ _ _ h=>h) (Or.inl ⟨by rfl,?y12b⟩) hHeld4 ?r12b
       case y12b=>intro wq hSw;obtain⟨q0,q1,q2,q3⟩:=hSw;go_simp;with_reducible rfl
       refine wpAnyH_take (i:=13) (v:=?v13b) rfl (by kernel_rfl) (by kernel_rfl) (by kernel_rfl) (fun _ _ _ h=>h) (Or.inl ⟨by rfl,?y13b⟩) hHeld4 ?r13b
       case y13b=>intro wq hSw;obtain⟨q0,q1,q2,q3⟩:=hSw;go_simp;with_reducible rfl
       refine wpAnyH_done (by kernel_rfl) ?_ _
       obtain⟨g1,g2,g3,g4,g5⟩:=HCR.out _ _ _ HJ4.out HT4.out;clear hHeld0 hHeld3 hHeld4;go_simp
       cases b1
       ·have HR3:Hid (R=(false,s1)):=HR2.out.symm
        clear HR2;go_wp2
        go_ret
        rw[HR3.out];exact⟨rfl,vals4,(zFw vals4 v pre x HPL.out HT4.out).1,HJ4.out⟩
       ·have HR3:Hid (runT tell ((zEM (x+1) hi).flatMap (fL m.vars m.cons k pre)) s1=R):=HR2.out
        clear HR2;go_wp2_with fail
        exact⟨⟨_,HGO.out _ _ _ HJ4.out HT4.out HR3.out⟩,Nat.lt_of_le_of_lt (zDw (HGO.out _ _ _ HJ4.out HT4.out HR3.out)) (by rw[HNN.out];exact HLT.out)⟩
     ·have HR2:Hid (runT tell [] st=R):=by
       have h:=HRW.out;rw[zRC x hi (by omega)] at h
       exact h
      clear HRW hdue hown;go_wp2
      go_quiet (fail)
      go_wp2
      go_ret
      rw[show R=(true,st) from HR2.out.symm]
      exact⟨rfl,vls,HTL.out,HJ.out.below _ _ _ _ HJW.out (below_drewN (Below.refl _ _) _)⟩
theorem Tryz.infoInt7:(Tryz.prog.info? 3).map (fun i=>(i.zero,i.size,i.bytes))=some (some (.int .i64 0),1,8):=by kernel_rfl
theorem Tryz.underInts7:Tryz.prog.underlying 42=some (.slice 3):=by kernel_rfl
theorem Tryz.infoRow7:(Tryz.prog.info? 42).map (fun i=>(i.zero,i.size,i.bytes))=some (some (.slice none 0 0),1,24):=by kernel_rfl
theorem Tryz.underRows7:Tryz.prog.underlying 56=some (.slice 42):=by kernel_rfl
theorem zOF (l:List Int) (hl:l.length≤200000) (u:Value) (w:World) (hu:IArg w u l) :
 Calls Tryz.prog 70 #[u] w fun e w'=>∃x,e=.returned x∧w'.ownsRow w.heap.size 3 1 x l.length (l.map (Value.int .i64))∧Below w.heap.size w w':=by
 obtain⟨i0,hi0,hz0,hz1,hz2⟩:=info_parts Tryz.infoInt7;have q22:∀(w:World) (a:Option Addr) (n c n' c':Nat),(binOp .eql 42 (.slice a n c) (.slice none n' c')).run Tryz.prog w=.ok (.bool a.isNone) w:=fun w a n c n' c'=>Lib.run_eql_slice_nil w _ _ a n c n' c' Tryz.underInts7
 obtain⟨a,c,rfl,hm,hr⟩:=hu;cases a with
 | none =>
   have:l=[]:=by
    cases l with
    | nil=>rfl
    | cons z r=>obtain⟨b,off,hq,_⟩:=hr 0 z rfl;cases hq
   subst this;go_enter Tryz.func70,Tryz.ntmps70
   go_wp2
   go_ret
   exact⟨_,rfl,World.ownsRow_nil _ _ _ _,Below.refl _ _⟩
 | some ad =>
   have HL:Hid (l.length≤200000):=hl;obtain⟨L,hLL⟩:∃L,l.map (Value.int .i64)=L:=⟨_,rfl⟩;have HC:Hid (∀(j:Nat) (u:Value),L[j]? = some u→(w.alloc (.cells #[] 3)).cell? (ad.add j)=some u):=fun j y hy=>by
    rw[←hLL,List.getElem?_map] at hy;cases hz:l[j]? with
    | none=>rw[hz] at hy;cases hy
    | some z =>
      rw[hz] at hy;obtain⟨b,off,hq,hlt,hc⟩:=hr j z hz;cases hq
      rw[zEZ];have:y=.int .i64 z:=by simpa using hy.symm
      rw[this];exact ((zAA w _).cell (p:=⟨b,off+j,none⟩) hlt).trans hc
   have H1:Hid (∀u∈L,u.oneCell'=true):=fun u hu=>by
    rw[←hLL] at hu;obtain⟨z,_,rfl⟩:=List.mem_map.1 hu;rfl
   have HFL:Hid (L.length=l.length * 1):=by show _=_;rw[←hLL];simp
   have HM0:Hid ((w.alloc (.cells #[] 3)).ownsRow w.heap.size 3 1 (.slice (some ⟨w.heap.size,0,none⟩) 0 0) 0 []):=World.ownsRow_made w #[] 0 (Nat.le_refl _) (Nat.zero_le _) (by simp)
   rw[hLL];clear hl hr hm hLL;go_enter Tryz.func70,Tryz.ntmps70
   go_wp2_with (at_builtin;refine wpList_append_own _ rfl _ _ 42 rfl w.heap.size 3 i0 (.int .i64 0) 1 8 Tryz.underInts7 hi0 hz0 hz1 hz2 rfl (by decide) _ _ _ rfl HM0.out ad l.length c L rfl HFL.out HC.out H1.out ?c1 ?c2 ?c3 ?_)
   case c1=>have:=HL.out;unfold maxLen;omega
   case c2=>have:=HL.out;omega
   case c3=>simp
   intro v3 w3 hown3 hgrow _;have HB3:Hid (Below w.heap.size w w3):=(zAA _ _).grown hgrow (by simp) (by intro k hk;simp[Value.ownBlock] at hk;omega)
   have HO3:Hid (w3.ownsRow w.heap.size 3 1 v3 l.length L):=by show World.ownsRow _ _ _ _ _ _ _;simpa using hown3
   obtain⟨av,cv,rfl⟩:=zAC hown3;clear hown3 hgrow;go_wp2
   go_ret
   exact⟨_,by simp,HO3.out,HB3.out⟩
def LLr (B:Nat) (w:World) (v:Value) (acc:List (List Int)):Prop :=
 ∃cells,w.ownsRow B 42 1 v acc.length cells∧∀(i:Nat) (r:List Int),acc[i]? = some r→∃x,cells[i]? = some x∧w.ownsRow B 3 1 x r.length (r.map (Value.int .i64))
theorem LLr.none (B:Nat) (w:World):LLr B w (.slice Option.none 0 0) []:=⟨[],World.ownsRow_nil _ _ _ _,fun i r h=>by simp at h⟩
theorem LLr.form {B:Nat} {w:World} {v:Value} {acc:List (List Int)} (h:LLr B w v acc):∃a c,v=.slice a acc.length c:=by
 obtain⟨cells,h1,_⟩:=h;exact zAC h1
theorem LLr.at {B:Nat} {w w':World} {v:Value} {acc:List (List Int)} (h:LLr B w v acc) (hb:∀g,B≤g→g<w.heap.size→w'.heap[g]? = w.heap[g]?):LLr B w' v acc:=by
 obtain⟨cells,h1,h2⟩:=h;refine⟨cells,zDc h1 fun g hg=>hb g (h1.lt g hg).1 (h1.lt g hg).2,fun i r hr=>?_⟩
 obtain⟨x,hx,ho⟩:=h2 i r hr;exact⟨x,hx,zDc ho fun g hg=>hb g (ho.lt g hg).1 (ho.lt g hg).2⟩
theorem LLr.push {B:Nat} {w w':World} {v v' xv:Value} {x:List Int} {acc:List (List Int)} {cells:List Value} {o:Obj} (h:w.ownsRow B 42 1 v acc.length cells)
 (hc:∀(i:Nat) (r:List Int),acc[i]? = some r→∃x,cells[i]? = some x∧w.ownsRow B 3 1 x r.length (r.map (Value.int .i64))) (hx:w.ownsRow B 3 1 xv x.length (x.map (Value.int .i64)))
 (h':w'.ownsRow B 42 1 v' (acc.length+1) (cells++[xv])) (hg:(w.alloc o).grownBy w' v.ownBlock):LLr B w' v' (acc++[x]):=by
 have hlen:cells.length=acc.length:=by have:=h.1;omega
 refine⟨cells++[xv],by rw[List.length_append];exact h',fun i r hr=>?_⟩
 by_cases hi:i<acc.length
 ·rw[List.getElem?_append_left hi] at hr
  obtain⟨y,hy,ho⟩:=hc i r hr;exact⟨y,by rw[List.getElem?_append_left (by omega)];exact hy,(ho.alloc _).kept hg (zDG ho h (by decide))⟩
 ·rw[List.getElem?_append_right (by omega)] at hr
  have hi0:i - acc.length=0:=by
   have:=(List.getElem?_eq_some_iff.1 hr).1;simp at this;omega
  rw[hi0] at hr;cases hr
  refine⟨xv,?_,(hx.alloc _).kept hg (zDG hx h (by decide))⟩
  rw[List.getElem?_append_right (by omega),show i - cells.length=0 by omega];rfl
theorem zPp (w:World) (z:Value):∀(j:Nat) (u:Value),[z][j]? = some u→(w.alloc (.cells #[z] 42)).cell? ((⟨w.heap.size,0,none⟩:Addr).add j)=some u:=by
 intro j u hj
 match j,hj with
 | 0,hj=>simp at hj;subst hj;simp[Addr.add]
theorem zPq (bO B:Nat) (s:List (List Int)) (vals:List Int) (hv6:vals.length≤6) (hs:s.length≤200) (v ov:Value) (w:World) (hv:IArg w v vals) (hO:w.heap[bO]? = some (.cells #[ov] 56)) (hl:LLr B w ov s) (hB:B≤w.heap.size) (hbO:bO<B) :
 Calls Tryz.prog 69 #[v,.pointer (some ⟨bO,0,none⟩)] w fun e w'=>Fr (fun k=>k=bO∨B≤k) w w'∧e=.returned (.bool (zEB s vals).1)∧∃ov',w'.heap[bO]? = some (.cells #[ov'] 56)∧LLr B w' ov' (zEB s vals).2:=by
 obtain⟨i0,hi,hz0,hz1,hz2⟩:=info_parts Tryz.infoRow7;obtain⟨ao,co,hof⟩:=hl.form;subst hof;have HL:Hid (LLr B w (.slice ao s.length co) s):=hl;have HO:Hid (w.heap[bO]? = some (.cells #[.slice ao s.length co] 56)):=hO;have HV:Hid (∀Y,Below w.heap.size w Y→IArg Y v vals):=fun Y h=>IArg.below h hv
 have c0:w.cell? ⟨bO,0,none⟩=some (.slice ao s.length co):=blk9 hO 0 _ rfl;have l0:bO<w.heap.size:=by omega
 obtain⟨av,cv,rfl,hmv,_⟩:=hv;obtain⟨T,hT⟩:∃T,zEB s vals=T:=⟨_,rfl⟩;rw[hT];have HT:Hid (zEB s vals=T):=hT;clear hl hO hT;by_cases h2:s.length=200
 ·have HR:Hid (T=(false,s)):=by show _=_;rw[←HT.out];unfold zEB;rw[if_pos h2]
  rw[h2] at c0;go_enter Tryz.func69,Tryz.ntmps69
  go_wp2
  go_ret
  rw[HR.out];exact⟨Fr.refl _ _,rfl,_,HO.out,HL.out⟩
 ·have HR:Hid (T=(true,s++[vals])):=by show _=_;rw[←HT.out];unfold zEB;rw[if_neg h2]
  have h2':((s.length:Int)==200)=false:=by simp only[beq_eq_false_iff_ne,ne_eq];omega
  have h2'':(s.length==200)=false:=by simp only[beq_eq_false_iff_ne,ne_eq];omega
  obtain⟨cells,ho,hrows⟩:=HL.out;have HOW:Hid (w.ownsRow B 42 1 (.slice ao s.length co) s.length cells):=ho;have HRO:Hid (∀(i:Nat) (r:List Int),s[i]? = some r→∃x,cells[i]? = some x∧w.ownsRow B 3 1 x r.length (r.map (Value.int .i64))):=hrows;have HNE:Hid (∀g,(Value.slice ao s.length co).ownBlock=some g→g≠bO):=fun g hg=>by have:=(ho.lt g hg).1;omega
  clear ho hrows;go_enter Tryz.func69,Tryz.ntmps69
  go_wp2_with fail
  go_region_law
   (first
     | (rw[if_pos (by rfl)];refine zBP _ _ _ 56 rfl B 42 i0 _ 1 24 Tryz.underRows7 hi hz0 hz1 hz2 rfl (by decide) _ _ _ rfl ((zAB HOW.out hB3).alloc _) ⟨w3.heap.size,0,none⟩ 1 1 [.slice a3 vals.length d3] rfl rfl (zPp w3 (.slice a3 vals.length d3)) (by intro u hu;rcases List.mem_singleton.1 hu with rfl;rfl) ?_ ?_ ?_ ?_;(unfold maxLen;omega);omega;(simp;omega);intro v4 w4 hown4 hg4 hat4;obtain⟨a4,d4,hv4⟩:=zAC hown4;subst hv4;have hO4:w4.heap[bO]? = some (.cells #[.slice ao s.length co] 56):=(hg4.block bO (by simp;omega) (fun e=>HNE.out bO e.symm rfl)).trans (((zAA w3 _).block bO (by omega)).trans hO3)
        have k4:=blk9 hO4 0 _ rfl;have f4:=frz9 hO4 0;have l4:bO<w4.heap.size:=(Array.getElem?_eq_some_iff.1 hO4).1)
     | (rw[if_pos (by rfl)];go_simp;go_at_call 70;refine (zOF vals (by omega) _ _ (HV.out _ (Below.refl _ _).drew)).mono ?_;rintro e w3 ⟨x3,rfl,hx3,hb3⟩;obtain⟨a3,d3,hv3⟩:=zAC hx3;subst hv3;have hB3:Below w.heap.size w w3:=(Below.refl _ _).drew.trans hb3;have hO3:=(hB3.block bO l0).trans HO.out;have k3:=blk9 hO3 0 _ rfl;have l3:bO<w3.heap.size:=Nat.lt_of_lt_of_le l0 hB3.size;have s3:=hB3.size;dsimp only))
  all_goals
   have HG4:Hid ((w3.alloc (.cells #[.slice a3 vals.length d3] 42)).grownBy w4 (Value.slice ao s.length co).ownBlock):=hg4;have HX3:Hid (w3.ownsRow B 3 1 (.slice a3 vals.length d3) vals.length (vals.map (Value.int .i64))):=hx3.mono hB;have HO4:Hid (w4.heap[bO]? = some (.cells #[.slice ao s.length co] 56)):=hO4;have HB3:Hid (Below w.heap.size w w3):=hB3;have HW4:Hid (w4.ownsRow B 42 1 (.slice a4 (s.length+1) d4) (s.length+1) (cells++[.slice a3 vals.length d3])):=hown4;clear hg4 hat4 hown4 hx3 hb3 hO4 hB3 hO3 k3 k4 f4;go_wp2
   go_ret
   have hlr:=LLr.push (zAB HOW.out HB3.out) (fun i r hr=>by obtain⟨y,hy,hoy⟩:=HRO.out i r hr;exact⟨y,hy,zAB hoy HB3.out⟩) HX3.out HW4.out HG4.out
   rw[HR.out];refine⟨?_,rfl,.slice a4 (s.length+1) d4,by rw[heap_setCell_same w4 bO 0 _ _ _ HO4.out];rfl,hlr.at fun g h1 h2=>Below.heap_setCell _ _ _ _ (by simp only;omega)⟩
   have hfx:Fr (fun k=>k=bO∨B≤k) w w4:=((Fr.below HB3.out).alloc _).grown HG4.out fun k hk=>Or.inl (Or.inr (HOW.out.lt k hk).1)
   exact Fr.setX (p:=⟨bO,0,none⟩) hfx (Or.inl rfl) _
end Go.Proofs.YtndcpnlaadikoaaGreatDoor
