/- What the proof leans on, part 16. -/
import Derived.Test.YtndcpnlaadikoaaGreatDoorPartAn
import Derived.Test.YtndcpnlaadikoaaGreatDoorPartAa
import Derived.Shelf.Spec.TrailingZeros
import Derived.Test.YtndcpnlaadikoaaGreatDoorPartAo
namespace Go.Proofs.YtndcpnlaadikoaaGreatDoor
def zDX (p:Nat):List Nat:=(List.range 36).filter fun i=>p.testBit i
theorem zMc (x:Nat) (h0:x≠0) (h:x<2 ^ 64):∃m,x=2 ^ (Lib.ctz 64 x+1) * m+2 ^ Lib.ctz 64 x∧Lib.ctz 64 x<64:=by
 obtain⟨m,h1,h2⟩:=Lib.ctzFrom_spec 64 x (by omega) h
 have e:Lib.ctz 64 x=Lib.ctzFrom 64 x:=by unfold Lib.ctz;rw[if_neg h0]
 rw[e]
 refine⟨m,?_,h2⟩
 conv=>lhs;rw[h1]
 rw[Nat.pow_succ,Nat.mul_add,Nat.mul_one,Nat.mul_assoc]
theorem zCY (x:Nat) (h0:x≠0) (h:x<2 ^ 64) (i:Nat):(i<Lib.ctz 64 x→x.testBit i=false)∧(i=Lib.ctz 64 x→x.testBit i=true)∧(x &&& (x - 1)).testBit i=(x.testBit i&&!decide (i=Lib.ctz 64 x)):=by
 obtain⟨m,h1,_⟩:=zMc x h0 h
 generalize hk:Lib.ctz 64 x=k at h1
 have hp:0<2 ^ k:=Nat.pow_pos (by omega)
 have hlt:2 ^ k<2 ^ (k+1):=by rw[Nat.pow_succ];omega
 have h2:x - 1=2 ^ (k+1) * m+(2 ^ k - 1):=by omega
 have t1:x.testBit i=if i<k+1 then decide (k=i) else m.testBit (i - (k+1)):=by
  rw[h1,Nat.testBit_two_pow_mul_add _ hlt]
  split
  ·exact zBO k i
  ·rfl
 have t2:(x - 1).testBit i=if i<k+1 then decide (i<k) else m.testBit (i - (k+1)):=by
  rw[h2,Nat.testBit_two_pow_mul_add _ (by omega)]
  split
  ·exact Nat.testBit_two_pow_sub_one ..
  ·rfl
 refine⟨fun hi=>?_,fun hi=>?_,?_⟩
 ·rw[t1,if_pos (by omega)];simp;omega
 ·rw[t1,if_pos (by omega)];simp;omega
 ·rw[Nat.testBit_and,t1,t2]
  by_cases hi:i<k+1
  ·rw[if_pos hi,if_pos hi]
   by_cases he:k=i
   ·subst he;simp
   ·simp[he]
  ·rw[if_neg hi,if_neg hi,show decide (i=k)=false by simp;omega];simp
theorem zE0 (x:Nat) (h0:x≠0) (h:x<2 ^ 64):x &&& (x - 1)<x:=by
 have h1:=zCY x h0 h
 have hle:x &&& (x - 1)≤x:=Nat.and_le_left
 have:x &&& (x - 1)≠x:=fun he=>by
  have h2:=(h1 (Lib.ctz 64 x)).2.2
  rw[he,(h1 (Lib.ctz 64 x)).2.1 rfl] at h2
  simp at h2
 omega
theorem zGB:zDX 0=[]:=by simp[zDX]
theorem zDQ (x:Nat) (h0:x≠0) (h:x<2 ^ 36):zDX x=Lib.ctz 64 x :: zDX (x &&& (x - 1))∧Lib.ctz 64 x<36:=by
 have h64:x<2 ^ 64:=Nat.lt_of_lt_of_le h (Nat.pow_le_pow_right (by omega) (by omega))
 have hb:=zCY x h0 h64
 have hk:Lib.ctz 64 x<36:=by
  apply Classical.byContradiction
  intro hn
  have h1:=(hb (Lib.ctz 64 x)).2.1 rfl
  rw[Nat.testBit_lt_two_pow (Nat.lt_of_lt_of_le h (Nat.pow_le_pow_right (by omega) (by omega)))] at h1
  cases h1
 refine⟨?_,hk⟩
 generalize hc:Lib.ctz 64 x=k at *
 unfold zDX
 have hs:List.range 36=List.range k++(k :: (List.range (36 - (k+1))).map (·+(k+1))):=by
  have h1:List.range 36=List.range ((k+1)+(36 - (k+1))):=by congr 1;omega
  rw[h1,List.range_add,List.range_succ,List.append_assoc]
  congr 1
  simp only[List.singleton_append,List.cons.injEq,true_and]
  apply List.map_congr_left
  intro a _
  omega
 rw[hs,List.filter_append,List.filter_append,List.filter_cons,List.filter_cons]
 have e1:(List.range k).filter (fun i=>x.testBit i)=[]:=List.filter_eq_nil_iff.2 fun a ha=>by
  rw[(hb a).1 (List.mem_range.1 ha)];simp
 have e2:(List.range k).filter (fun i=>(x &&& (x - 1)).testBit i)=[]:=List.filter_eq_nil_iff.2 fun a ha=>by
  rw[(hb a).2.2,(hb a).1 (List.mem_range.1 ha)];simp
 have e3:x.testBit k=true:=(hb k).2.1 rfl
 have e4:(x &&& (x - 1)).testBit k=false:=by rw[(hb k).2.2];simp
 rw[e1,e2,e3,e4,if_pos rfl,if_neg (by simp),List.nil_append,List.nil_append]
 congr 1
 apply List.filter_congr
 intro a ha
 obtain⟨b,_,rfl⟩:=List.mem_map.1 ha
 rw[(hb _).2.2,show decide (b+(k+1)=k)=false by simp;omega];simp
def zBP (vs:List MVar) (p:Nat):Cla:=(zDX p).map fun i=>⟨((i / 6:Nat):Int),3,(zAH vs (i / 6)).lo+((i % 6:Nat):Int)⟩
theorem zD9 (vs:List MVar) (p:Nat):(zBP vs p).length≤36:=by
 unfold zBP zDX
 rw[List.length_map]
 exact Nat.le_trans (List.length_filter_le _ _) (by simp)
def zBU (says:Nat→Bool):Nat→Nat→Nat→Nat
 | 0,gone,_=>gone
 | f+1,gone,rest=>if rest=0 then gone else zBU says f (if says (zAJ gone (2 ^ Lib.ctz 64 rest)) then zAJ gone (2 ^ Lib.ctz 64 rest) else gone) (rest &&& (rest - 1))
theorem zGC (says:Nat→Bool):∀(f gone rest:Nat),says gone=true→says (zBU says f gone rest)=true
 | 0,gone,rest,h=>h
 | f+1,gone,rest,h=>by
   unfold zBU
   split
   ·exact h
   ·apply zGC
    split
    ·assumption
    ·exact h
theorem zFN (says:Nat→Bool):∀(f gone rest i:Nat),(zBU says f gone rest).testBit i=true→gone.testBit i=true
 | 0,gone,rest,i,h=>h
 | f+1,gone,rest,i,h=>by
   unfold zBU at h
   split at h
   ·exact h
   ·have:=zFN says f _ _ i h
    split at this
    ·rw[zAW,Bool.and_eq_true] at this
     exact this.1
    ·exact this
theorem zGD (says:Nat→Bool):∀(f g gone rest:Nat),rest<f→rest<g→rest<2 ^ 64→zBU says f gone rest=zBU says g gone rest
 | 0,g,gone,rest,hf,hg,_=>by omega
 | f+1,0,gone,rest,hf,hg,_=>by omega
 | f+1,g+1,gone,rest,hf,hg,h=>by
   unfold zBU
   split
   ·rfl
   ·rename_i h0
    have:=zE0 rest h0 h
    exact zGD says f g _ _ (by omega) (by omega) (by omega)
theorem zKJ (says:Nat→Bool) (gone rest:Nat) (h0:rest≠0) (h:rest<2 ^ 64):zBU says (rest+1) gone rest=zBU says ((rest &&& (rest - 1))+1) (if says (zAJ gone (2 ^ Lib.ctz 64 rest)) then zAJ gone (2 ^ Lib.ctz 64 rest) else gone) (rest &&& (rest - 1)):=by
 conv=>lhs;unfold zBU
 rw[if_neg h0]
 have:=zE0 rest h0 h
 exact zGD says _ _ _ _ (by omega) (by omega) (by omega)
theorem zAx (lo hi x:Int):x∈zDh lo hi↔lo≤x∧x≤hi:=by
 refine⟨fun h=>?_,fun h=>zJV lo hi x h.1 h.2⟩
 unfold zDh at h
 obtain⟨k,hk,rfl⟩:=List.mem_map.1 h
 have:=List.mem_range.1 hk
 omega
theorem zCy (vs:List MVar) (c:MCon):∀(r u:List Int) (a p:Nat),(∀v∈r,0≤v∧v<(vs.length:Int))→u.length=vs.length→p∈zAa vs c r u a →
 ∃u':List Int,u'.length=vs.length∧zAV c u'=true∧(∀v∈r,(zAH vs v.toNat).lo≤zAX u' v∧zAX u' v≤(zAH vs v.toNat).hi)∧(∀w:Int,(∀v∈r,v.toNat≠w.toNat)→zAX u' w=zAX u w) ∧
  (∀i,a.testBit i=true→p.testBit i=true)∧∀v∈r,p.testBit (6 * v.toNat+(zAX u' v - (zAH vs v.toNat).lo).toNat)=true
 | [],u,a,p,_,hu,hp=>by
   unfold zAa at hp
   split at hp
   ·rename_i hh
    rw[List.mem_singleton.1 hp]
    exact⟨u,hu,hh,(fun v hv=>by cases hv),(fun _ _=>rfl),(fun _ h=>h),(fun v hv=>by cases hv)⟩
   ·cases hp
 | v :: r,u,a,p,hr,hu,hp=>by
   unfold zAa at hp
   obtain⟨x,hx,hp⟩:=List.mem_flatMap.1 hp
   obtain⟨h1,h2⟩:=(zAx _ _ _).1 hx
   obtain⟨v0,v1⟩:=hr v (List.mem_cons_self ..)
   obtain⟨u',l1,l2,l3,l4,l5,l6⟩:=zCy vs c r _ _ p (fun y hy=>hr y (List.mem_cons_of_mem _ hy)) (by simpa using hu) hp
   have key:(∀y∈r,y.toNat≠v.toNat)→zAX u' v=x:=fun hq=>by rw[l4 v hq,zCf _ _ _ (by omega)]
   have same:∀y∈r,y.toNat=v.toNat→y=v:=fun y hy he=>by
    have:=hr y (List.mem_cons_of_mem _ hy)
    omega
   refine⟨u',l1,l2,fun y hy=>?_,fun w hw=>?_,fun i hi=>l5 i (by rw[Nat.testBit_or,hi];rfl),fun y hy=>?_⟩
   ·rcases List.mem_cons.1 hy with rfl | hy
    ·by_cases hq:∃z∈r,z.toNat=y.toNat
     ·obtain⟨z,hz,he⟩:=hq
      rw[←same z hz he];exact l3 z hz
     ·rw[key fun z hz he=>hq ⟨z,hz,he⟩];exact⟨h1,h2⟩
    ·exact l3 y hy
   ·rw[l4 w (fun y hy=>hw y (List.mem_cons_of_mem _ hy)),zDE _ _ _ _ (hw v (List.mem_cons_self ..))]
   ·rcases List.mem_cons.1 hy with rfl | hy
    ·by_cases hq:∃z∈r,z.toNat=y.toNat
     ·obtain⟨z,hz,he⟩:=hq
      rw[←same z hz he];exact l6 z hz
     ·rw[key fun z hz he=>hq ⟨z,hz,he⟩]
      refine l5 _ ?_
      rw[Nat.testBit_or,zBO]
      simp
    ·exact l6 y hy
theorem zJX (p i:Nat) (hi:i<36):i∈zDX p↔p.testBit i=true:=by
 unfold zDX
 rw[List.mem_filter,List.mem_range]
 exact⟨fun h=>h.2,fun h=>⟨hi,h⟩⟩
theorem zGE (vs:List MVar) (hv:zAb vs) (hb:∀v:Nat,v<vs.length→-50≤(zAH vs v).lo∧(zAH vs v).hi≤50) (p:Nat) (hp:∀i,p.testBit i=true→(zAC vs).testBit i=true):∀l∈zBP vs p,litE vs l=0:=by
 intro l hl
 obtain⟨i,hi,rfl⟩:=List.mem_map.1 hl
 unfold zDX at hi
 have h1:=hp i (List.mem_filter.1 hi).2
 unfold zAC ofP at h1
 rw[zAg vs hv] at h1
 simp only[Bool.and_eq_true,decide_eq_true_eq] at h1
 have h2:=hb (i / 6) h1.1
 have h3:=h1.2.1
 unfold zAu at h3
 unfold litE
 simp only
 rw[if_neg (by omega),if_neg (by omega),if_neg (by omega)]
theorem zDj (m:Mod) (hm:zAP m=0) (v:Nat) (h:v<m.vars.length):-50≤(zAH m.vars v).lo∧(zAH m.vars v).hi≤50:=by
 have e:m.vars[v]? = some (zAH m.vars v):=by unfold zAH;rw[List.getD_eq_getElem?_getD,List.getElem?_eq_getElem h];rfl
 have:=zJI m hm v _ e
 omega
theorem zFO (l:List Int) (h:∀e∈l,e=0):zAe l=0:=by
 induction l with
 | nil=>rfl
 | cons a r ih =>
   unfold zAe
   rw[if_pos (h a (List.mem_cons_self ..))]
   exact ih fun e he=>h e (List.mem_cons_of_mem _ he)
open Go.RowKit
def TabT (w:World):Prop:=TabAt 0 Lib.deBruijn64tab w
theorem TabT.below {w w':World} (h:TabT w) (hb:Below w.heap.size w w'):TabT w':=fun j hj=>by
 have:=h j hj
 exact (hb.cell (World.block_lt_of_cell? w _ this)).trans this
set_option maxHeartbeats 1000000 in
theorem zLO (x k idx:Nat) (w:World) (hx0:((x:Int)==0)=false)
 (key:IntKind.u64.wrap (bits BinOp.and IntKind.u64 (x:Int) (IntKind.u64.wrap (-(x:Int))) * 285870213051353865) / 288230376151711744=(idx:Int))
 (hi:idx<64) (hk:k<64) (hcell:w.cell? ⟨0,idx,none⟩=some (.int .u8 k)) :
 Calls Tryz.prog 234 #[.int .u64 x] w fun e w'=>e=.returned (.int .i64 k)∧w'=w:=by
 go_enter Tryz.func234,Tryz.ntmps234
 go_wp2_with (simp only[key])
 go_ret
 exact⟨rfl,rfl⟩
theorem zLP (w:World):Calls Tryz.prog 234 #[.int .u64 0] w fun e w'=>e=.returned (.int .i64 64)∧w'=w:=by
 go_enter Tryz.func234,Tryz.ntmps234
 go_wp2
 go_ret
 exact⟨rfl,rfl⟩
theorem zJY (x:Nat) (hx:x<18446744073709551616) (w:World) (hT:TabT w) :
 Calls Tryz.prog 234 #[.int .u64 x] w fun e w'=>e=.returned (.int .i64 (Lib.ctz 64 x))∧w'=w:=by
 by_cases hx0:x=0
 ·subst hx0
  exact zLP w
 ·obtain⟨hlow,hk⟩:=Lib.lowest_bit 64 x hx0 hx
  obtain⟨hi,htab⟩:=Lib.deBruijn64_at _ hk
  have hcell:=hT _ hi
  rw[htab] at hcell
  exact zLO x _ _ w (by simp;omega) (tz64_key x _ hx hx0 hlow) hi hk hcell
theorem zN1 (k:Nat) (hk:k<8):IntKind.u64.wrap (63 * 2 ^ (k * 6))=((63 * 2 ^ (6 * k):Nat):Int):=by
 rw[IntKind.wrap_u64,Nat.mul_comm k 6]
 have:(2:Nat) ^ (6 * k)≤2 ^ 42:=Nat.pow_le_pow_right (by omega) (by omega)
 have e:(63:Int) * ((2:Int) ^ (6 * k))=((63 * 2 ^ (6 * k):Nat):Int):=by simp
 rw[e]
 exact Int.emod_eq_of_lt (by omega) (by omega)
set_option maxHeartbeats 400000 in
theorem zEA (p:Nat) (h0:p≠0) (hp:p<2 ^ 36) (w:World) (hT:TabT w) :
 Calls Tryz.prog 231 #[.int .u64 p] w fun e w'=>e=.returned (.int .u64 ((zAZ p:Nat):Int))∧w'=w:=by
 have HT:Hid (TabT w):=hT
 have hc:=(zDQ p h0 hp).2
 obtain⟨t,ht⟩:∃t,Lib.ctz 64 p=t:=⟨_,rfl⟩
 have HC:Hid (Lib.ctz 64 p=t):=ht
 rw[ht] at hc
 have HF:Hid (zAZ p=63 * 2 ^ (6 * (t / 6))):=by show _=_;unfold zAZ;rw[ht]
 have hs:=zN1 (t / 6) (by omega)
 rw[HF.out]
 obtain⟨q,hq⟩:∃q,63 * 2 ^ (6 * (t / 6))=q:=⟨_,rfl⟩
 rw[hq] at hs ⊢
 have HP:Hid (p<2 ^ 36):=hp
 clear hT ht hq hp h0
 go_enter Tryz.func231,Tryz.ntmps231
 go_wp2_with fail
 refine (zJY p (by have:=HP.out;omega) _ HT.out).mono ?_
 rintro e w ⟨rfl,rfl⟩
 rw[HC.out]
 go_wp2
 go_ret
 exact⟨zAI hs,rfl⟩
theorem zKK (cs:List Nat) (k c left:Nat) (h:cs[k]? = some c):zAd (cs.drop k) left=if left &&& c=0 then none
 else if zAJ (left &&& c) (zAZ (left &&& c))=0 then zAd (cs.drop (k+1)) (zAJ left (zAJ (zAZ (left &&& c)) (left &&& c))) else zAd (cs.drop (k+1)) left:=by
 have hk:k<cs.length:=(List.getElem?_eq_some_iff.1 h).1
 have hc:cs[k]=c:=by rw[List.getElem?_eq_getElem hk] at h;exact Option.some.inj h
 rw[List.drop_eq_getElem_cons hk,hc]
 rfl
theorem zJZ (p:Nat) (h0:p≠0) (h:p<2 ^ 36):zAZ p<2 ^ 36:=by
 have h1:=(zDQ p h0 h).2
 unfold zAZ
 have h2:2 ^ (6 * (Lib.ctz 64 p / 6))≤2 ^ 30:=Nat.pow_le_pow_right (by omega) (by omega)
 omega
theorem zMd {a b:Nat} (ha:a<2 ^ 36):a &&& b<2 ^ 36:=Nat.lt_of_le_of_lt Nat.and_le_left ha
theorem zEW {a b:Nat} (h:a=b):Ending.returned (.int .u64 (a:Int))=Ending.returned (.int .u64 (b:Int)):=by rw[h]
set_option maxHeartbeats 1600000 in
set_option maxRecDepth 100000 in
theorem zHh (vs:List MVar) (h6:vs.length≤6) (hn1:1≤vs.length) (cs:List Nat) (r:Nat) (hr36:r<2 ^ 36) (sv pv:Value) (w:World) (hv:VArg w sv vs) (hp:PArg w pv cs) (hT:TabT w) :
 Calls Tryz.prog 146 #[sv,pv,.int .u64 r] w fun e w'=>e=.returned (.int .u64 ((zAc vs cs r:Nat):Int))∧w'=w:=by
 have HV:Hid (VArg w sv vs):=hv
 have HT:Hid (TabT w):=hT
 have H6:Hid (vs.length≤6):=h6
 have HR36:Hid (r<2 ^ 36):=hr36
 obtain⟨R,hR⟩:∃R,zAc vs cs r=R:=⟨_,rfl⟩
 have HS:Hid (R=if zA7 vs.length r then 0 else zAv cs (r+1) r):=by show _=_;rw[←hR];rfl
 rw[hR]
 have HR0:Hid (zA7 vs.length r=false→r≠0):=fun h0 h1=>by
  rw[zJW vs.length r 0 (by omega) (by rw[h1];rfl)] at h0;cases h0
 obtain⟨a,c,rfl,_,_⟩:=hv
 obtain⟨a2,c2,rfl,hm,hrp⟩:=hp
 have HP:Hid (∀(i z:Nat),cs[i]? = some z→z<2 ^ 36∧∃b off,a2=some ⟨b,off,none⟩∧b<w.heap.size∧w.cell? ⟨b,off+i,none⟩=some (.int .u64 z)):=hrp
 unfold maxLen at hm
 obtain⟨hm1,hm⟩:=hm
 clear hT hR hrp hn1 h6 hr36
 go_enter Tryz.func146,Tryz.ntmps146
 go_wp2_with fail
 refine (zFL vs H6.out r HR36.out _ _ HV.out).mono ?_
 rintro e w ⟨rfl,rfl⟩
 obtain⟨L,hL⟩:∃L,zA7 vs.length r=L:=⟨_,rfl⟩
 rw[hL] at HS HR0 ⊢
 clear hL
 cases L
 ·have HS2:Hid (R=zAv cs (r+1) r):=HS.out
  have HN0:Hid (r≠0):=HR0.out rfl
  clear HS HR0
  go_wp2_with fail
  go_loopw [7,8] (fun l b wr=>∃bb ll:Nat,l=.int .u64 (ll:Int)∧b=.int .u64 (bb:Int)∧Hid (ll<2 ^ 36)∧Hid (if bb=ll then R=ll else R=zAv cs (ll+1) ll)∧wr=w) (fun l b _=>if intOf b=intOf l then 0 else (intOf l).toNat+1)
  case atStart=>exact⟨0,r,rfl,rfl,HR36,by show (if _ then _ else _);rw[if_neg (fun h=>HN0.out h.symm)];exact HS2.out,rfl⟩
  case round =>
   obtain⟨bb,ll,rfl,rfl,hl36,hst,rfl⟩:=hrel
   by_cases hbl:bb=ll
   ·have HN:Hid (R=ll):=by have:=hst.out;rw[if_pos hbl] at this;exact this
    have hne:((bb:Int) != (ll:Int))=false:=by simp[hbl]
    clear hst hbl
    go_wp2
    go_ret
    exact⟨zEW HN.out.symm,rfl⟩
   ·have HN:Hid (R=zAv cs (ll+1) ll):=by have:=hst.out;rw[if_neg hbl] at this;exact this
    have HU:Hid (R=match zAd cs ll with
     | none=>0
     | some l=>if l=ll then ll else zAv cs (l+1) l):=by show _=_;rw[HN.out];exact zKH cs ll
    have HBL:Hid (bb≠ll):=hbl
    have hne:((bb:Int) != (ll:Int))=true:=by simp;omega
    clear hst hbl
    go_wp2_with fail
    clear hne
    go_loopw [7,23] (fun l i wx=>∃k l2:Nat,k≤cs.length∧i=.int .i64 k∧l=.int .u64 (l2:Int)∧Hid (l2<2 ^ 36)∧Hid (zAd cs ll=zAd (cs.drop k) l2)∧wx=wr) (fun _ i _=>cs.length - (intOf i).toNat)
    case atStart=>exact⟨0,ll,by omega,rfl,rfl,hl36,rfl,rfl⟩
    case round =>
     obtain⟨k,l2,hk,rfl,rfl,hl2,hrd,rfl⟩:=hrel
     by_cases hlt:k<cs.length
     ·obtain⟨z,hz⟩:∃z,cs[k]? = some z:=⟨cs[k],by simp[hlt]⟩
      obtain⟨hz36,b,off,ha,hb,hc⟩:=HP.out k z hz
      subst ha
      have HZ:Hid (cs[k]? = some z):=hz
      have HRC:Hid (zAd (cs.drop k) l2=if l2 &&& z=0 then none
       else if zAJ (l2 &&& z) (zAZ (l2 &&& z))=0 then zAd (cs.drop (k+1)) (zAJ l2 (zAJ (zAZ (l2 &&& z)) (l2 &&& z))) else zAd (cs.drop (k+1)) l2):=zKK cs k z l2 hz
      have hand:=bits_and_u64_nat l2 z (by have:=hl2.out;omega) (by omega)
      obtain⟨o,ho⟩:∃o,l2 &&& z=o:=⟨_,rfl⟩
      have HO36:Hid (o<2 ^ 36):=by rw[←ho];exact zMd hl2.out
      rw[ho] at hand HRC
      clear hz hz36 ho
      by_cases ho0:o=0
      ·have HE:Hid (R=0):=by show _=_;rw[HU.out,hrd.out,HRC.out,if_pos ho0]
       subst ho0
       clear hrd hl2
       go_wp2
       go_ret
       exact⟨zEW HE.out.symm,rfl⟩
      ·have HRC2:Hid (zAd (cs.drop k) l2=if zAJ o (zAZ o)=0 then zAd (cs.drop (k+1)) (zAJ l2 (zAJ (zAZ o) o)) else zAd (cs.drop (k+1)) l2):=by show _=_;rw[HRC.out,if_neg ho0]
       have HO0:Hid (o≠0):=ho0
       have ho1:((o:Int)==0)=false:=by simpa using ho0
       obtain⟨f,hf⟩:∃f,zAZ o=f:=⟨_,rfl⟩
       have HF36:Hid (f<2 ^ 36):=by rw[←hf];exact zJZ o ho0 HO36.out
       have hnt:=zAY o f (by have:=HO36.out;omega) (by have:=HF36.out;omega)
       have HF:Hid (zAZ o=f):=hf
       rw[hf] at HRC2
       obtain⟨g,hg⟩:∃g,zAJ o f=g:=⟨_,rfl⟩
       rw[hg] at hnt HRC2
       clear ho0 hf hg HRC
       by_cases hg0:g=0
       ·have hn2:=zAY f o (by have:=HF36.out;omega) (by have:=HO36.out;omega)
        obtain⟨t,ht⟩:∃t,zAJ f o=t:=⟨_,rfl⟩
        have HT36:Hid (t<2 ^ 36):=by rw[←ht];exact zCK 36 _ _ HF36.out
        have hn3:=zAY l2 t (by have:=hl2.out;omega) (by have:=HT36.out;omega)
        obtain⟨l3,hl3⟩:∃l3,zAJ l2 t=l3:=⟨_,rfl⟩
        have HL36:Hid (l3<2 ^ 36):=by rw[←hl3];exact zCK 36 _ _ hl2.out
        have HE:Hid (zAd cs ll=zAd (cs.drop (k+1)) l3):=by show _=_;rw[hrd.out,HRC2.out,if_pos hg0,ht,hl3]
        rw[ht] at hn2
        rw[hl3] at hn3
        subst hg0
        clear hrd ht hl3 HRC2 hl2
        go_wp2_with fail
        refine (zEA o HO0.out HO36.out _ HT.out).mono ?_
        rintro e w ⟨rfl,rfl⟩
        rw[HF.out]
        go_wp2
        go_roundw
        case rel=>exact⟨k+1,l3,by omega,by go_num,rfl,HL36,HE,trivial⟩
        case measure=>simp[intOf];omega
       ·have HE:Hid (zAd cs ll=zAd (cs.drop (k+1)) l2):=by show _=_;rw[hrd.out,HRC2.out,if_neg hg0]
        have hg1:((g:Int)==0)=false:=by simpa using hg0
        clear hrd hg0 HRC2
        go_wp2_with fail
        refine (zEA o HO0.out HO36.out _ HT.out).mono ?_
        rintro e w ⟨rfl,rfl⟩
        rw[HF.out]
        go_wp2
        go_roundw
        case rel=>exact⟨k+1,l2,by omega,by go_num,rfl,hl2,HE,trivial⟩
        case measure=>simp[intOf];omega
     ·have hke:k=cs.length:=by omega
      have HE:Hid (zAd cs ll=some l2):=by show _=_;rw[hrd.out,hke,List.drop_length];rfl
      have HLE:Hid (l2≤ll):=zCA cs ll l2 HE.out
      have HU2:Hid (if ll=l2 then R=l2 else R=zAv cs (l2+1) l2):=by
       show (if _ then _ else _)
       have:=HU.out
       rw[HE.out] at this
       simp only at this
       by_cases hq:ll=l2
       ·rw[if_pos hq];rw[if_pos hq.symm] at this;rw[this];exact hq
       ·rw[if_neg hq];rw[if_neg (fun h=>hq h.symm)] at this;exact this
      have HM:Hid ((if (ll:Int)=(l2:Int) then 0 else (l2:Int).toNat+1)<(if (bb:Int)=(ll:Int) then 0 else (ll:Int).toNat+1)):=by
       show _<_
       have h1:=HBL.out
       have h2:=HLE.out
       have e:(if (bb:Int)=(ll:Int) then 0 else (ll:Int).toNat+1)=(ll:Int).toNat+1:=if_neg (by omega)
       rw[e]
       split <;> omega
      clear hrd hke
      go_wp2
      go_roundw
      case rel=>exact⟨ll,l2,rfl,rfl,hl2,HU2,trivial⟩
      case measure=>exact HM.out
 ·have HN:Hid (R=0):=HS.out
  go_wp2
  go_ret
  exact⟨zEW HN.out.symm,rfl⟩
set_option maxHeartbeats 800000 in
set_option maxRecDepth 100000 in
theorem zLQ (vs:List MVar) (hva:zAU vs) (hn1:1≤vs.length) (cs:List Nat) (h:Nat) (hh:h<2 ^ 36) (sv pv:Value) (w:World) (hv:VArg w sv vs) (hp:PArg w pv cs) (hT:TabT w) :
 Calls Tryz.prog 88 #[sv,pv,.int .u64 h] w fun e w'=>e=.returned (.bool (zDF vs cs h))∧Below w.heap.size w w':=by
 have HV:Hid (∀w',Below w.heap.size w w'→VArg w' sv vs):=fun w' h=>VArg.below h hv
 have HP:Hid (∀w',Below w.heap.size w w'→PArg w' pv cs):=fun w' h=>PArg.below h hp
 have HT:Hid (∀w',Below w.heap.size w w'→TabT w'):=fun w' h=>hT.below h
 have HVO:Hid (zAU vs):=hva
 have H6:Hid (vs.length≤6):=hva.1.1
 have H1:Hid (1≤vs.length):=hn1
 have HW36:Hid (zAC vs<2 ^ 36):=zEV vs hva.1 _
 obtain⟨q,hq⟩:∃q,zAC vs=q:=⟨_,rfl⟩
 obtain⟨r,hr⟩:∃r,zAJ (zAC vs) h=r:=⟨_,rfl⟩
 have HR36:Hid (r<2 ^ 36):=by rw[←hr];exact zCK 36 _ _ HW36.out
 have hbits:=zAY (zAC vs) h (by have:=HW36.out;omega) (by omega)
 rw[hr,hq] at hbits
 have HQ:Hid (zAC vs=q):=hq
 obtain⟨R,hR⟩:∃R,zDF vs cs h=R:=⟨_,rfl⟩
 have HS:Hid (R=(((zAc vs cs r:Nat):Int)==0)):=by
  show _=_
  rw[←hR];unfold zDF;rw[hr]
  by_cases h0:zAc vs cs r=0
  ·rw[h0];rfl
  ·have h1:(((zAc vs cs r:Nat):Int)==0)=false:=by simpa using h0
   rw[h1];simpa using h0
 rw[hR]
 obtain⟨a,c,rfl,_,_⟩:=hv
 obtain⟨a2,c2,rfl,_,_⟩:=hp
 clear hva hh hq hr hT hR hn1
 go_enter Tryz.func88,Tryz.ntmps88
 go_wp2_with fail
 refine (zD7 vs HVO.out _ _ (HV.out _ (Below.refl _ _))).mono ?_
 rintro e w1 ⟨rfl,hb1⟩
 rw[HQ.out]
 have HB1:Hid (Below w.heap.size w w1):=hb1
 clear hb1
 go_wp2_with fail
 refine (zHh vs H6.out H1.out cs r HR36.out _ _ _ (HV.out _ HB1.out) (HP.out _ HB1.out) (HT.out _ HB1.out)).mono ?_
 rintro e w1 ⟨rfl,rfl⟩
 obtain⟨U,hU⟩:∃U:Int,((zAc vs cs r:Nat):Int)=U:=⟨_,rfl⟩
 rw[hU] at HS ⊢
 clear hU
 go_wp2
 go_ret
 exact⟨zAB HS.out.symm,HB1.out⟩
end Go.Proofs.YtndcpnlaadikoaaGreatDoor
