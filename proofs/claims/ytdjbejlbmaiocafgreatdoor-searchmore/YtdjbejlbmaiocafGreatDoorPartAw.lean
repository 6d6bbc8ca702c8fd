/- What the proof leans on, part 23. -/
import Derived.Test.YtdjbejlbmaiocafGreatDoorPartAq
import Derived.Test.YtdjbejlbmaiocafGreatDoorPartAv
import Derived.Deep.RegionLaw
import Derived.Maps.AppendAt
namespace Go.Proofs.YtdjbejlbmaiocafGreatDoor
open Go.RowKit
theorem zAg {P:Program} (w:World) {o:Oper} {a:Act} {K:Act→World→Prop} {Q:Exit→Act→World→Prop} (s x:Operand) (t:TypeId)
 (ho:o.op=.call { callee:=.builtin .append,args:=#[s,x],argTypes:=#[t,t] })
 (base:Nat) (e:TypeId) (i:TypeInfo) (z:Value) (size bytes:Nat) (ht:P.underlying t=some (.slice e)) (hi:P.info? e=some i) (hz:i.zero=some z)
 (hsize:i.size=size) (hby:i.bytes=bytes) (hzs:z.cells.size=size) (hsz:0<size)
 (v:Value) (n:Nat) (xs:List Value) (hs:a.eval s=v) (hown:w.ownsRow base e size v n xs)
 (ad:Addr) (m c:Nat) (news:List Value) (hx:a.eval x=.slice (some ad) m c) (hl:news.length=m * size) (hnews:∀j u,news[j]? = some u→w.cell? (ad.add j)=some u) (h1:∀u∈news,u.oneCell'=true)
 (h63:n+m≤maxLen) (hbytes:(n+m) * bytes≤140737488355328) (hbase:base≤w.heap.size)
 (h:∀v' w',w'.ownsRow base e size v' (n+m) (xs++news)→w.grownBy w' v.ownBlock→(v'.ownBlock=v.ownBlock∨v'.ownBlock=some w.heap.size)→K (a.put o.dst v') w'):o.wp P a w K Q:=by
 obtain⟨v',w',hr,h2,h3,_,h4⟩:=run_append_own_at (P:=P) (w:=w) base t o.type e i z size bytes ht hi hz hsize hby hzs hsz v n xs hown ad m c news hl hnews h1 h63 hbytes hbase
 unfold Oper.wp execOp
 simp only[ho,resolve,invoke,builtin,Sem.run_bind,Sem.run_pure,Result.andThen_ok,List.map_toArray,List.map_cons,List.map_nil,hs,hx,hr]
 exact h v' w' h2 h3 h4
def zCm (w:World) (B n:Nat) (cells:List Value) (M:Sto):Prop :=
 w.ownsRow B 26 1 (.slice (some ⟨B,0,none⟩) n n) n cells∧M.length=n ∧
 (∀(i:Nat) (r:List Int),M[i]? = some r→∃x,cells[i]? = some x∧w.ownsRow (B+1) 3 1 x r.length (r.map (Value.int .i64))) ∧
 (∀(i j:Nat) (x y:Value) (g:Nat),i≠j→cells[i]? = some x→cells[j]? = some y→x.ownBlock=some g→y.ownBlock≠some g)
theorem zCm.kept {w w':World} {B n:Nat} {cells:List Value} {M:Sto} (h:zCm w B n cells M) (hb:Below w.heap.size w w'):zCm w' B n cells M:=by
 obtain⟨h1,h0,h2,h3⟩:=h
 refine⟨zAD h1 hb,h0,fun i r hr=>?_,h3⟩
 obtain⟨y,hy,hoy⟩:=h2 i r hr
 exact⟨y,hy,zAD hoy hb⟩
theorem zCm.push {w w3:World} {B n:Nat} {cells:List Value} {M:Sto} {k:Nat} {r:List Int} {x v3:Value} {z:Int} (h:zCm w B n cells M) (hM:M[k]? = some r) (hx:cells[k]? = some x)
 (ho:w3.ownsRow (B+1) 3 1 v3 (r++[z]).length ((r++[z]).map (Value.int .i64))) (hg:w.grownBy w3 x.ownBlock) (hat:v3.ownBlock=x.ownBlock∨v3.ownBlock=some w.heap.size) :
 zCm (w3.setCell ⟨B,k,none⟩ v3) B n (cells.set k v3) (M.set k (r++[z])):=by
 obtain⟨h1,h0,h2,h4⟩:=h
 obtain⟨y,hy,hoy⟩:=h2 k r hM
 rw[hx] at hy;cases hy
 have hxK:∀g,x.ownBlock=some g→B+1≤g:=fun g hg=>(hoy.lt g hg).1
 have hB:B<w.heap.size:=(h1.lt B rfl).2
 have hne:some B≠x.ownBlock:=fun h=>by have:=hxK B h.symm;omega
 have h13:w3.ownsRow B 26 1 (.slice (some ⟨B,0,none⟩) n n) n cells:=h1.kept hg (Or.inr hne)
 have hlen:cells.length=n:=by have:=h1.1;omega
 have hkn:k<n:=by rw[←h0];exact (List.getElem?_eq_some_iff.1 hM).1
 have hold:∀(j:Nat) (y:Value),j≠k→cells[j]? = some y→∀g,y.ownBlock=some g→g<w.heap.size:=fun j y hj hy g hg=>by
  have hjn:j<n:=by rw[←hlen];exact (List.getElem?_eq_some_iff.1 hy).1
  obtain⟨y',hy',ho'⟩:=h2 j M[j] (by rw[List.getElem?_eq_getElem (by omega)])
  rw[hy] at hy';cases hy'
  exact (ho'.lt g hg).2
 refine⟨(h13.stored k v3).1,by simpa using h0,fun i q hq=>?_,fun i j y u g hij hyi hyj hg1=>?_⟩
 ·by_cases hik:i=k
  ·subst hik
   rw[List.getElem?_set_self (by omega)] at hq
   cases hq
   refine⟨v3,by rw[List.getElem?_set_self (by omega)],zCK ho fun g hg2=>Below.heap_setCell _ _ _ _ ?_⟩
   have:=(ho.lt g hg2).1
   simp only;omega
  ·rw[List.getElem?_set_ne (by omega)] at hq
   obtain⟨y,hy,hoy2⟩:=h2 i q hq
   refine⟨y,by rw[List.getElem?_set_ne (by omega)];exact hy,?_⟩
   have h23:w3.ownsRow (B+1) 3 1 y q.length (q.map (Value.int .i64)):=by
    refine hoy2.kept hg ?_
    cases hyb:y.ownBlock with
    | none=>exact Or.inl rfl
    | some g=>exact Or.inr fun he=>h4 i k y x g hik hy hx hyb he.symm
   refine zCK h23 fun g hg2=>Below.heap_setCell _ _ _ _ ?_
   have:=(hoy2.lt g hg2).1
   simp only;omega
 ·by_cases hik:i=k
  ·subst hik
   rw[List.getElem?_set_self (by omega)] at hyi
   cases hyi
   rw[List.getElem?_set_ne (by omega)] at hyj
   rcases hat with hat | hat
   ·rw[hat] at hg1
    exact h4 _ j x u g hij hx hyj hg1
   ·rw[hat] at hg1
    intro hu
    have:=hold j u (Ne.symm hij) hyj g hu
    have:=Option.some.inj hg1
    omega
  ·rw[List.getElem?_set_ne (by omega)] at hyi
   by_cases hjk:j=k
   ·subst hjk
    rw[List.getElem?_set_self (by omega)] at hyj
    cases hyj
    rcases hat with hat | hat
    ·rw[hat]
     exact h4 i _ y x g hij hyi hx hg1
    ·rw[hat]
     intro hu
     have:=hold i y hij hyi g hg1
     have:=Option.some.inj hu
     omega
   ·rw[List.getElem?_set_ne (by omega)] at hyj
    exact h4 i j y u g hij hyi hyj hg1
theorem zCm.rarg {w:World} {B n:Nat} {cells:List Value} {M:Sto} (h:zCm w B n cells M):RArg w (.slice (some ⟨B,0,none⟩) n n) M:=by
 obtain⟨h1,h0,h2,_⟩:=h
 have hB:B<w.heap.size:=(h1.lt B rfl).2
 have hmx:n≤maxLen:=by
  rcases h1.2 with ⟨h',_⟩ | ⟨g,cap,cur,h',_,_,hc1,hc2,_⟩
  ·cases h'
  ·exact Nat.le_trans hc1 hc2
 refine⟨_,n,by rw[h0],⟨by omega,hmx⟩,fun i r hr=>?_⟩
 have hi:i<n:=by rw[←h0];exact (List.getElem?_eq_some_iff.1 hr).1
 obtain⟨x,hx,ho⟩:=h2 i r hr
 exact⟨B,0,x,rfl,hB,by rw[Nat.zero_add,h1.cellAt i (by omega)];exact hx,zGB ho⟩
theorem zG3 (vs:List MVar) (hva:zAH vs) (p:Nat) (hp:∀i,p.testBit i=true→(zAG vs).testBit i=true):∀l∈zA8 vs p,0≤l.var∧l.var<(vs.length:Int)∧-100≤l.n∧l.n≤100:=by
 intro l hl
 unfold zA8 at hl
 obtain⟨i,hi,rfl⟩:=List.mem_map.1 hl
 unfold zCM at hi
 have hb:=hp i (List.mem_filter.1 hi).2
 unfold zAG ofP at hb
 rw[zAf vs hva.1] at hb
 simp only[Bool.and_eq_true,decide_eq_true_eq] at hb
 have h1:=hva.2 (i / 6) hb.1
 have h2:=hva.1.2 (i / 6)
 simp only
 omega
theorem zG4 (ls:Cla) (k:Nat) (l:MLit) (h:ls[k]? = some l) (s:Sto):zAz (ls.take (k+1)) s=(zAz (ls.take k) s).set l.var.toNat ((zAz (ls.take k) s).getD l.var.toNat []++[l.n]):=by
 rw[List.take_add_one,h]
 generalize ls.take k=q
 induction q generalizing s with
 | nil=>simp[zAz]
 | cons x r ih=>simp only[List.cons_append];unfold zAz;exact ih _
theorem zCb:∀(c:Cla) (s:Sto) (v:Nat),((zAz c s).getD v []).length≤(s.getD v []).length+c.length
 | [],s,v=>by simp[zAz]
 | l :: r,s,v=>by
   unfold zAz
   have:=zCb r (s.set l.var.toNat (s.getD l.var.toNat []++[l.n])) v
   have h2:((s.set l.var.toNat (s.getD l.var.toNat []++[l.n])).getD v []).length≤(s.getD v []).length+1:=by
    by_cases he:l.var.toNat=v
    ·subst he
     by_cases hl:l.var.toNat<s.length
     ·simp[List.getD_eq_getElem?_getD,hl]
     ·simp[List.getD_eq_getElem?_getD,Nat.le_of_not_lt hl]
    ·simp[List.getD_eq_getElem?_getD,he]
   rw[List.length_cons]
   omega
theorem zGE {base:Nat} {w:World} {a:Option Addr} {c:Nat} {l:Cla} (h:LOwn base w (.slice a l.length c) l) (i:Nat) (t:MLit) (hi:l[i]? = some t):∃b off,a=some ⟨b,off,none⟩∧b<w.heap.size ∧
 w.cell? ⟨b,off+i * 3,none⟩=some (.int .i64 t.var)∧w.cell? ⟨b,off+i * 3+1,none⟩=some (.int .i64 t.op)∧w.cell? ⟨b,off+i * 3+2,none⟩=some (.int .i64 t.n):=by
 obtain⟨a',c',he,_,h2⟩:=h.arg
 cases he
 exact h2 i t hi
set_option maxHeartbeats 6400000 in
set_option maxRecDepth 100000 in
theorem zIH (vs:List MVar) (hva:zAH vs) (p:Nat) (hp:∀i,p.testBit i=true→(zAG vs).testBit i=true) (sv:Value) (w:World) (hv:VArg w sv vs) (hT:TabT w) :
 Calls Tryz.prog 114 #[sv,.int .u64 p] w fun e w'=>∃B cells,e=.returned (.slice (some ⟨B,0,none⟩) vs.length vs.length)∧zCm w' B vs.length cells (zAP vs p)∧w.heap.size≤B∧Below w.heap.size w w':=by
 have h6:=hva.1.1
 have HLT:Hid (∀Y,Below w.heap.size w Y→Calls Tryz.prog 199 #[sv,.int .u64 p] Y fun e w'=>∃x,e=.returned x∧LOwn Y.heap.size w' x (zA8 vs p)∧Below Y.heap.size Y w'):=fun Y hY=>zEg vs hva p hp sv Y (VArg.below hY hv) (hT.below hY)
 have HBD:Hid (∀l∈zA8 vs p,0≤l.var∧l.var<(vs.length:Int)∧-100≤l.n∧l.n≤100):=zG3 vs hva p hp
 have hl36:=zCh vs p
 unfold zAP
 obtain⟨ls,hls⟩:∃ls,zA8 vs p=ls:=⟨_,rfl⟩
 rw[hls] at HLT HBD hl36 ⊢
 obtain⟨a,c,rfl,_,_⟩:=hv
 obtain⟨n,hn⟩:∃n,vs.length=n:=⟨_,rfl⟩
 rw[hn] at HLT HBD h6 ⊢
 obtain⟨wm,hrun,hrows,hbm⟩:=zIG n h6 w
 have HROWS:Hid (zCm wm w.heap.size n (List.replicate n (.slice none 0 0)) (List.replicate n [])):=by
  obtain⟨k1,k2,k3⟩:=hrows (List.replicate n [])
  refine⟨k1,by simp,fun i r hr=>?_,fun i j x y g _ hx _ hg=>?_⟩
  ·have hi:i<n:=by have:=(List.getElem?_eq_some_iff.1 hr).1;simpa using this
   have:r=[]:=by rw[List.getElem?_replicate,if_pos hi] at hr;exact (Option.some.inj hr).symm
   subst this
   exact⟨_,k3 i (Nat.zero_le _) hi,World.ownsRow_nil _ _ _ _⟩
  ·rw[List.getElem?_replicate] at hx
   split at hx
   ·cases hx;cases hg
   ·cases hx
 have HBM:Hid (Below w.heap.size w wm):=hbm
 obtain⟨B,hB⟩:∃B,B=w.heap.size:=⟨_,rfl⟩
 rw[←hB] at hrun HROWS
 have hBw:w.heap.size≤B:=by omega
 obtain⟨i0,hi,hz0,hz1,hz2⟩:=info_parts Tryz.infoInt
 clear hrows hbm hB hls hva hp hT hn
 go_enter Tryz.func114,Tryz.ntmps114
 go_wp2_with fail
 clear hrun
 refine (HLT.out _ HBM.out).mono ?_
 rintro e w1 ⟨x,rfl,hown,hb1⟩
 obtain⟨K,hK⟩:∃K,wm.heap.size=K:=⟨_,rfl⟩
 rw[hK] at hown
 have HLO:Hid (LOwn K w1 x ls):=hown
 have HG1:Hid (zCm w1 B n (List.replicate n (.slice none 0 0)) (List.replicate n [])):=HROWS.out.kept hb1
 have HB1:Hid (Below w.heap.size w w1):=HBM.out.trans (hb1.mono HBM.out.size)
 obtain⟨al,cl,rfl⟩:=zAC (show w1.ownsRow _ _ _ _ _ _ from hown)
 clear hK hown hb1 HROWS HBM HLT
 go_wp2_with fail
 go_loopw [15] (fun i wr=>∃(k:Nat) (cells:List Value),k≤ls.length∧i=.int .i64 k∧zCm wr B n cells (zAz (ls.take k) (List.replicate n []))∧LOwn K wr (.slice al (List.length ls) cl) ls∧Below w.heap.size w wr) (fun i _=>ls.length - (intOf i).toNat)
 case atStart=>exact⟨0,_,by omega,rfl,HG1.out,HLO.out,HB1.out⟩
 case round =>
  obtain⟨k,cells,hk,rfl,hg,hlo,hbw⟩:=hrel
  have HG:Hid (zCm wr B n cells (zAz (ls.take k) (List.replicate n []))):=hg
  have HLO2:Hid (LOwn K wr (.slice al (List.length ls) cl) ls):=hlo
  have HBW:Hid (Below w.heap.size w wr):=hbw
  clear hg hlo hbw
  by_cases hlt:k<ls.length
  ·obtain⟨l,hl⟩:∃l,ls[k]? = some l:=⟨ls[k],by simp[hlt]⟩
   have HN:Hid (zAz (ls.take (k+1)) (List.replicate n [])=(zAz (ls.take k) (List.replicate n [])).set l.var.toNat ((zAz (ls.take k) (List.replicate n [])).getD l.var.toNat []++[l.n])):=zG4 ls k l hl _
   obtain⟨b0,b1,b2,b3⟩:=HBD.out l (List.mem_of_getElem? hl)
   obtain⟨M,hM⟩:∃M,zAz (ls.take k) (List.replicate n [])=M:=⟨_,rfl⟩
   rw[hM] at HN HG
   have hML:M.length=n:=HG.out.2.1
   obtain⟨lv,lo,ln⟩:=l
   simp only at b0 b1 b2 b3
   obtain⟨v,rfl⟩:∃v:Nat,lv=(v:Int):=⟨lv.toNat,by omega⟩
   obtain⟨r,hr⟩:∃r,M[v]? = some r:=⟨M[v],by rw[List.getElem?_eq_getElem (by omega)]⟩
   have HR:Hid (M[v]? = some r):=hr
   have HN2:Hid (zAz (ls.take (k+1)) (List.replicate n [])=M.set v (r++[ln])):=by
    show _=_
    rw[HN.out]
    simp only[Int.toNat_natCast]
    rw[List.getD_eq_getElem?_getD,hr];rfl
   have hrl:r.length≤36:=by
    have:=zCb (ls.take k) (List.replicate n []) v
    rw[hM,List.getD_eq_getElem?_getD,hr] at this
    simp only[Option.getD_some,List.length_take] at this
    have h0:((List.replicate n ([]:List Int)).getD v []).length=0:=by simp[List.getD_eq_getElem?_getD,show v<n by omega]
    omega
   obtain⟨htop,_,hrws,_⟩:=HG.out
   obtain⟨x,hx,hox⟩:=hrws v r hr
   have HX:Hid (cells[v]? = some x):=hx
   obtain⟨ax,cx,rfl⟩:=zAC hox
   have hcx:wr.cell? ⟨B,v,none⟩=some (.slice ax r.length cx):=by rw[htop.cellAt v (by omega)];exact hx
   have hlB:B<wr.heap.size:=(htop.lt B rfl).2
   obtain⟨ad,off,hal,hlb,hc0,hc1,hc2⟩:=zGE HLO2.out k _ hl
   subst hal
   simp only at hc0 hc1 hc2
   have hbs:=HBW.out.size
   clear hl hr hx hM htop hrws HN
   go_wp2_with fail
   obtain⟨Y,hY⟩:∃Y,wr.alloc (.cells #[.int .i64 (v:Int),.int .i64 lo,.int .i64 ln] 117)=Y:=⟨_,rfl⟩
   rw[hY]
   have hBY:Below wr.heap.size wr Y:=by rw[←hY];exact zAA _ _
   have HGY:Hid (zCm Y B n cells M):=HG.out.kept hBY
   have HLOY:Hid (LOwn K Y (.slice (some ⟨ad,off,none⟩) (List.length ls) cl) ls):=zAD (show wr.ownsRow _ _ _ _ _ _ from HLO2.out) hBY
   have HBY:Hid (Below w.heap.size w Y):=HBW.out.trans (hBY.mono hbs)
   have hoxY:Y.ownsRow (B+1) 3 1 (.slice ax r.length cx) r.length (r.map (Value.int .i64)):=zAD hox hBY
   have d0:Y.cell? ⟨wr.heap.size,0,none⟩=some (.int .i64 (v:Int)):=by rw[←hY];simp
   have d2:Y.cell? ⟨wr.heap.size,2,none⟩=some (.int .i64 ln):=by rw[←hY];simp
   have dl:wr.heap.size<Y.heap.size:=by rw[←hY];simp
   have dB:Y.cell? ⟨B,v,none⟩=some (.slice ax r.length cx):=(hBY.cell (p:=⟨B,v,none⟩) hlB).trans hcx
   have dlB:B<Y.heap.size:=by omega
   have hvn:v<n:=by omega
   have hvn2:(v:Int)<(n:Int):=by omega
   obtain⟨q,hq⟩:∃q,wr.heap.size=q:=⟨_,rfl⟩
   have HXQ:Hid (some q≠(Value.slice ax r.length cx).ownBlock):=fun h=>by have:=(hox.lt q h.symm).2;omega
   rw[hq] at d0 d2 dl ⊢
   clear hc0 hc1 hc2 hcx hox hY hBY hq HG HLO2 hlB hlb
   go_region_law
    (first
     | (rw[if_pos (by rfl)];refine zAg _ _ _ 26 rfl (B+1) 3 i0 _ 1 8 Tryz.underlying26 hi hz0 hz1 hz2 rfl (by decide) _ _ _ rfl (hoxY.drew.alloc _) ⟨Y.heap.size,0,none⟩ 1 1 [.int .i64 ln] rfl rfl (zKV Y.drew ln) (by intro u hu;simp at hu;subst hu;rfl) ?_ ?_ ?_ ?_;(unfold maxLen;omega);omega;(simp;omega);intro v4 w4 hown4 hg4 hat4;obtain⟨av,cv,hv4⟩:=zAC hown4;subst hv4;have ht4:w4.ownsRow B 26 1 (.slice (some ⟨B,0,none⟩) n n) n cells:=(HGY.out.1.drew.alloc _).kept hg4 (Or.inr (fun h=>by have:=(hoxY.lt B h.symm).1;omega));have hcB:w4.cell? ⟨B,v,none⟩=some (.slice ax r.length cx):=by rw[ht4.cellAt v (by omega)];exact HX.out
        have hfB:w4.frozen? ⟨B,v,none⟩=false:=ht4.frozenAt v
        have hl4:B<w4.heap.size:=(ht4.lt B rfl).2
        have e0:w4.cell? ⟨q,0,none⟩=some (.int .i64 (v:Int)):=hg4.cell ((((Below.refl _ _).drew.alloc (Nat.le_refl _) _:Below Y.heap.size Y _).cell (p:=⟨q,0,none⟩) dl).trans d0) HXQ.out
        have el:q<w4.heap.size:=by have:=hg4.size;simp at this;omega))
   all_goals
    have hown5:w4.ownsRow (B+1) 3 1 (.slice av (r.length+1) cv) (r++[ln]).length ((r++[ln]).map (Value.int .i64)):=by
     rw[List.length_append,List.map_append];exact hown4
    have HP:Hid (zCm (w4.setCell ⟨B,v,none⟩ (.slice av (r.length+1) cv)) B n (cells.set v (.slice av (r.length+1) cv)) (M.set v (r++[ln]))) :=
     (HGY.out.kept ((Below.refl _ _).drew.alloc (Nat.le_refl _) _)).push HR.out HX.out hown5 hg4 hat4
    have HB5:Hid (Below w.heap.size w (w4.setCell ⟨B,v,none⟩ (.slice av (r.length+1) cv))) :=
     ((HBY.out.drew.alloc HBY.out.size _).grown hg4 (by have:=HBY.out.size;simp;omega) (fun g h=>by have:=(hoxY.lt g h).1;omega)).setCell (by simp only;omega) _
    have HL5:Hid (LOwn K (w4.setCell ⟨B,v,none⟩ (.slice av (r.length+1) cv)) (.slice (some ⟨ad,off,none⟩) (List.length ls) cl) ls):=by
     have h1:(Y.drew.alloc (.cells #[.int .i64 ln] 3)).ownsRow K 117 3 (.slice (some ⟨ad,off,none⟩) (List.length ls) cl) ls.length (zAv ls):=(show Y.drew.ownsRow _ _ _ _ _ _ from HLOY.out).alloc _
     have h2:=zAi h1 hg4 (hoxY.drew.alloc _) (by decide)
     rcases ht4.2 with ⟨h',_⟩ | ⟨g,cap,cur,h',_,hh,_⟩
     ·cases h'
     ·cases h'
      exact zB1 h2 hh (by decide) v _
    go_wp2
    go_roundw
    case rel=>exact⟨k+1,_,by omega,by go_num,by rw[HN2.out];exact HP.out,HL5.out,HB5.out⟩
    case measure=>simp[intOf];omega
  ·have HN:Hid (ls.take k=ls):=List.take_of_length_le (by omega)
   go_wp2
   go_ret
   rw[HN.out] at HG
   exact⟨_,_,rfl,HG.out,hBw,HBW.out⟩
end Go.Proofs.YtdjbejlbmaiocafGreatDoor
