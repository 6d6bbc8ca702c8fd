/- What the proof leans on, part 22. -/
import Derived.Test.YtndcpnlaadikoaaGreatDoorPartAu
import Derived.Test.YtndcpnlaadikoaaGreatDoorPartAp
import Derived.Test.YtndcpnlaadikoaaGreatDoorPartAm
import Derived.Test.YtndcpnlaadikoaaGreatDoorPartAt
import Derived.Test.YtndcpnlaadikoaaGreatDoorPartAq
import Derived.Test.YtndcpnlaadikoaaGreatDoorPartAb
import Derived.Deep.RegionLaw
import Derived.Maps.AppendAt
import Derived.Test.YtndcpnlaadikoaaGreatDoorPartAo
set_option maxRecDepth 100000
set_option maxHeartbeats 6400000
namespace Go.Proofs.YtndcpnlaadikoaaGreatDoor
open Go.RowKit
def zSW (F:Nat) (c1:Value) (l:List MCon) (p:MCon→Bool) (w:World):Prop :=
 (∀(args:Array Value) (w':World),Sem.run Tryz.prog (callFunc F args) w'=.ok (.enter F args) w') ∧
 ∀(t:MCon) (vv vc vr vl:Value) (w':World),t∈l→Below w.heap.size w w'→KArg w' vv vc vr vl t→Calls Tryz.prog F #[conV vv vc vr vl t,c1] w' fun e w''=>e=.returned (.bool (p t))∧Below w'.heap.size w' w''
theorem zLq (F:Nat) (c1:Value) (p:MCon→Bool) (l:List MCon) (v:Value) (w:World) (hv:CArg w v l) (hF:zSW F c1 l p w) :
 Calls Tryz.prog 202 #[v,.func (.func F) #[] #[c1]] w fun e w'=>(∃z:Int,e=.returned (.int .i64 z)∧decide (0≤z)=l.any p)∧Below w.heap.size w w':=by
 obtain⟨a,c,rfl,hm,hr⟩:=hv;have HV:Hid (∀(i:Nat) (t:MCon),l[i]? = some t→∃b off vv vc vr vl,a=some ⟨b,off,none⟩∧b<w.heap.size ∧
  w.cell? ⟨b,off+i * 6,none⟩=some (.int .i64 t.kind)∧w.cell? ⟨b,off+i * 6+1,none⟩=some vv∧w.cell? ⟨b,off+i * 6+2,none⟩=some vc ∧
  w.cell? ⟨b,off+i * 6+3,none⟩=some (.int .i64 t.n)∧w.cell? ⟨b,off+i * 6+4,none⟩=some vr∧w.cell? ⟨b,off+i * 6+5,none⟩=some vl∧KArg w vv vc vr vl t):=hr
 obtain⟨R,hR⟩:∃R,l.any p=R:=⟨_,rfl⟩;rw[hR];have HR:Hid (l.any p=R):=hR;have HF:Hid (zSW F c1 l p w):=hF;unfold maxLen at hm;obtain⟨hm1,hm⟩:=hm;clear hr hR hF;go_enter Tryz.func202,Tryz.ntmps202
 go_wp2_with fail
 go_loopw [8] (fun i wr=>∃m:Nat,m≤l.length∧i=.int .i64 m∧Hid ((l.take m).any p=false)∧Below w.heap.size w wr) (fun i _=>l.length - (intOf i).toNat)
 case atStart=>exact⟨0,by omega,rfl,rfl,Below.refl _ _⟩
 case round =>
  obtain⟨m,hml,rfl,hall,hbw⟩:=hrel;by_cases hlt:m<l.length
  ·obtain⟨z,hz⟩:∃z,l[m]? = some z:=⟨l[m],by simp[hlt]⟩
   obtain⟨b,off,vv,vc,vr,vl,ha,hb,d0,d1,d2,d3,d4,d5,hk⟩:=HV.out m z hz;have e0:=(hbw.cell (p:=⟨b,off+m * 6,none⟩) hb).trans d0;have e1:=(hbw.cell (p:=⟨b,off+m * 6+1,none⟩) hb).trans d1;have e2:=(hbw.cell (p:=⟨b,off+m * 6+2,none⟩) hb).trans d2;have e3:=(hbw.cell (p:=⟨b,off+m * 6+3,none⟩) hb).trans d3;have e4:=(hbw.cell (p:=⟨b,off+m * 6+4,none⟩) hb).trans d4;have e5:=(hbw.cell (p:=⟨b,off+m * 6+5,none⟩) hb).trans d5;have HK:Hid (KArg wr vv vc vr vl z):=KArg.below hbw hk;have HZ:Hid (l[m]? = some z):=hz;obtain⟨⟨a1,c1',rfl,_,_⟩,⟨a2,c2,rfl,_,_⟩,⟨a3,c3,rfl,_,_⟩,⟨a4,c4,rfl,_,_⟩⟩:=hk;subst ha;clear hz d0 d1 d2 d3 d4 d5;cases hq:p z
   ·have HN:Hid ((l.take (m+1)).any p=false):=zHR _ l m z HZ.out hall.out hq
    go_wp2_with fail
    rw[HF.out.1,Oper.upon_enter];refine (HF.out.2 z _ _ _ _ _ (List.mem_of_getElem? HZ.out) hbw HK.out).mono ?_;rintro e w1 ⟨rfl,hb1⟩;rw[hq];clear hq;go_wp2
    go_roundw
    case rel=>exact⟨m+1,by omega,by go_num,HN,hbw.trans (hb1.mono hbw.size)⟩
    case measure=>simp[intOf];omega
   ·have HN:Hid (R=true):=by rw[←HR.out];exact zJc p l m z HZ.out hq
    go_wp2_with fail
    rw[HF.out.1,Oper.upon_enter];refine (HF.out.2 z _ _ _ _ _ (List.mem_of_getElem? HZ.out) hbw HK.out).mono ?_;rintro e w1 ⟨rfl,hb1⟩;rw[hq];clear hq;go_wp2
    go_ret
    exact⟨⟨_,rfl,by rw[HN.out];simp⟩,hbw.trans (hb1.mono hbw.size)⟩
  ·have HN:Hid (R=false):=by rw[←HR.out];exact zJd _ l m hlt hall.out
   go_wp2
   go_ret
   exact⟨⟨_,rfl,by rw[HN.out];rfl⟩,hbw⟩
theorem zIM (F:Nat) (c1:Value) (p:MCon→Bool) (l:List MCon) (v:Value) (w:World) (hv:CArg w v l) (hF:zSW F c1 l p w) :
 Calls Tryz.prog 131 #[v,.func (.func F) #[] #[c1]] w fun e w'=>e=.returned (.bool (l.any p))∧Below w.heap.size w w':=by
 go_enter Tryz.func131,Tryz.ntmps131
 go_wp2_with fail
 refine (zLq F c1 p l v _ hv hF).mono ?_;rintro e w1 ⟨⟨z,rfl,hz⟩,hb1⟩;have HZ:Hid (decide (0≤z)=l.any p):=hz;clear hz;go_wp2
 go_ret
 exact⟨zAD HZ.out,hb1⟩
theorem zJk (args:Array Value) (w':World):Sem.run Tryz.prog (callFunc 129 args) w'=.ok (.enter 129 args) w':=by
 simp[callFunc,go_sem,Tryz.func129,Tryz.f129]
theorem zN0 (c:MCon) (vals:List Int) (vv vc vr vl v:Value) (b:Nat) (w:World) (hk:KArg w vv vc vr vl c) (hv:IArg w v vals) (hc:conE vals.length c=0) (hob:∀x∈ownV c.vars vals,-50≤x∧x≤50) (hb:w.cell? ⟨b,0,none⟩=some v) :
 Calls Tryz.prog 129 #[conV vv vc vr vl c,.pointer (some ⟨b,0,none⟩)] w fun e w'=>e=.returned (.bool (!zAR c vals))∧Below w.heap.size w w':=by
 have hbl:b<w.heap.size:=World.block_lt_of_cell? w _ hb;have HK:Hid (∀w',Below w.heap.size w w'→KArg w' vv vc vr vl c):=fun w' h=>KArg.below h hk
 have HV:Hid (∀w',Below w.heap.size w w'→IArg w' v vals):=fun w' h=>IArg.below h hv
 have HC:Hid (conE vals.length c=0):=hc;have HO:Hid (∀x∈ownV c.vars vals,-50≤x∧x≤50):=hob;obtain⟨⟨a1,c1,rfl,_,_⟩,⟨a2,c2,rfl,_,_⟩,⟨a3,c3,rfl,_,_⟩,⟨a4,c4,rfl,_,_⟩⟩:=hk;obtain⟨a5,c5,rfl,_,_⟩:=hv;obtain⟨R,hR⟩:∃R,zAR c vals=R:=⟨_,rfl⟩;rw[hR];have HR:Hid (zAR c vals=R):=hR;unfold conV;clear hR hc hob;go_enter Tryz.func129,Tryz.ntmps129
 go_wp2_with fail
 refine (zPZ c vals (.slice a1 c.vars.length c1) (.slice a2 c.consts.length c2) (.slice a3 c.rows.length c3) (.slice a4 c.lits.length c4) _ _ (HK.out _ (zAA _ _)) (HV.out _ (zAA _ _)) HC.out HO.out).mono ?_;rintro e w1 ⟨rfl,hb1⟩;rw[HR.out];have HB1:Hid (Below w.heap.size w w1):=(zAA _ _).trans (hb1.mono (by simp))
 clear hb1;go_wp2
 go_ret
 exact⟨rfl,HB1.out⟩
theorem Tryz.infoInts:(Tryz.prog.info? 42).map (fun i=>(i.zero,i.size,i.bytes))=some (some (.slice none 0 0),1,24):=by kernel_rfl
theorem Tryz.infoInt:(Tryz.prog.info? 3).map (fun i=>(i.zero,i.size,i.bytes))=some (some (.int .i64 0),1,8):=by kernel_rfl
theorem Tryz.underStore:Tryz.prog.underlying 153=some (.slice 42):=by kernel_rfl
theorem zN1 (n:Nat) (hn:n≤6) (w:World):∃w',Sem.run Tryz.prog (Instr.makeSlice 153 (.int .i64 (n:Int)) (.int .i64 (n:Int))) w=.ok (.slice (some ⟨w.heap.size,0,none⟩) n n) w' ∧
 (∀M,zLe w' w.heap.size w.heap.size n (List.replicate n (.slice none 0 0)) M 0)∧Below w.heap.size w w':=by
 obtain⟨i0,hi,hz0,hz1,hz2⟩:=info_parts Tryz.infoInts;obtain⟨w',hrun,hown,hg⟩:=run_makeSlice_full w w.heap.size 153 42 i0 (.slice none 0 0) 1 Tryz.underStore hi hz0 hz1 .i64 .i64 n (by omega) (by rw[hz2];omega) (by unfold maxLen;omega) (Nat.le_refl _)
 refine⟨w',hrun,fun M=>⟨?_,fun i r hi=>absurd hi (Nat.not_lt_zero _),fun i _ hn=>by simp[hn]⟩,(Below.refl _ _).grown hg (Nat.le_refl _) (fun k h=>by cases h)⟩
 have:(Value.slice none 0 0).cells=#[.slice none 0 0]:=rfl;rw[this,Nat.mul_one,toList_madeCells_one] at hown;exact hown
theorem zRE (w:World) (z:Int):∀(j:Nat) (u:Value),[Value.int .i64 z][j]? = some u→(w.alloc (.cells #[.int .i64 z] 3)).cell? ((⟨w.heap.size,0,none⟩:Addr).add j)=some u:=by
 intro j u hj
 match j,hj with
 | 0,hj=>simp at hj;subst hj;simp[Addr.add]
theorem zBP {P:Program} (w:World) {o:Oper} {a:Act} {K:Act→World→Prop} {Q:Exit→Act→World→Prop} (s x:Operand) (t:TypeId)
 (ho:o.op=.call { callee:=.builtin .append,args:=#[s,x],argTypes:=#[t,t] })
 (base:Nat) (e:TypeId) (i:TypeInfo) (z:Value) (size bytes:Nat) (ht:P.underlying t=some (.slice e)) (hi:P.info? e=some i) (hz:i.zero=some z)
 (hsize:i.size=size) (hby:i.bytes=bytes) (hzs:z.cells.size=size) (hsz:0<size)
 (v:Value) (n:Nat) (xs:List Value) (hs:a.eval s=v) (hown:w.ownsRow base e size v n xs)
 (ad:Addr) (m c:Nat) (news:List Value) (hx:a.eval x=.slice (some ad) m c) (hl:news.length=m * size) (hnews:∀j u,news[j]? = some u→w.cell? (ad.add j)=some u) (h1:∀u∈news,u.oneCell'=true)
 (h63:n+m≤maxLen) (hbytes:(n+m) * bytes≤140737488355328) (hbase:base≤w.heap.size)
 (h:∀v' w',w'.ownsRow base e size v' (n+m) (xs++news)→w.grownBy w' v.ownBlock→(v'.ownBlock=v.ownBlock∨v'.ownBlock=some w.heap.size)→K (a.put o.dst v') w'):o.wp P a w K Q:=by
 obtain⟨v',w',hr,h2,h3,_,h4⟩:=run_append_own_at (P:=P) (w:=w) base t o.type e i z size bytes ht hi hz hsize hby hzs hsz v n xs hown ad m c news hl hnews h1 h63 hbytes hbase;unfold Oper.wp execOp;simp only[ho,resolve,invoke,builtin,Sem.run_bind,Sem.run_pure,Result.andThen_ok,List.map_toArray,List.map_cons,List.map_nil,hs,hx,hr];exact h v' w' h2 h3 h4
def zE3 (w:World) (B n:Nat) (cells:List Value) (M:Sto):Prop :=
 w.ownsRow B 42 1 (.slice (some ⟨B,0,none⟩) n n) n cells∧M.length=n ∧
 (∀(i:Nat) (r:List Int),M[i]? = some r→∃x,cells[i]? = some x∧w.ownsRow (B+1) 3 1 x r.length (r.map (Value.int .i64))) ∧
 (∀(i j:Nat) (x y:Value) (g:Nat),i≠j→cells[i]? = some x→cells[j]? = some y→x.ownBlock=some g→y.ownBlock≠some g)
theorem zE3.kept {w w':World} {B n:Nat} {cells:List Value} {M:Sto} (h:zE3 w B n cells M) (hb:Below w.heap.size w w'):zE3 w' B n cells M:=by
 obtain⟨h1,h0,h2,h3⟩:=h;refine⟨zAB h1 hb,h0,fun i r hr=>?_,h3⟩
 obtain⟨y,hy,hoy⟩:=h2 i r hr;exact⟨y,hy,zAB hoy hb⟩
theorem zE3.push {w w3:World} {B n:Nat} {cells:List Value} {M:Sto} {k:Nat} {r:List Int} {x v3:Value} {z:Int} (h:zE3 w B n cells M) (hM:M[k]? = some r) (hx:cells[k]? = some x)
 (ho:w3.ownsRow (B+1) 3 1 v3 (r++[z]).length ((r++[z]).map (Value.int .i64))) (hg:w.grownBy w3 x.ownBlock) (hat:v3.ownBlock=x.ownBlock∨v3.ownBlock=some w.heap.size) :
 zE3 (w3.setCell ⟨B,k,none⟩ v3) B n (cells.set k v3) (M.set k (r++[z])):=by
 obtain⟨h1,h0,h2,h4⟩:=h;obtain⟨y,hy,hoy⟩:=h2 k r hM;rw[hx] at hy;cases hy;have hxK:∀g,x.ownBlock=some g→B+1≤g:=fun g hg=>(hoy.lt g hg).1
 have hB:B<w.heap.size:=(h1.lt B rfl).2;have hne:some B≠x.ownBlock:=fun h=>by have:=hxK B h.symm;omega
 have h13:w3.ownsRow B 42 1 (.slice (some ⟨B,0,none⟩) n n) n cells:=h1.kept hg (Or.inr hne);have hlen:cells.length=n:=by have:=h1.1;omega
 have hkn:k<n:=by rw[←h0];exact (List.getElem?_eq_some_iff.1 hM).1
 have hold:∀(j:Nat) (y:Value),j≠k→cells[j]? = some y→∀g,y.ownBlock=some g→g<w.heap.size:=fun j y hj hy g hg=>by
  have hjn:j<n:=by rw[←hlen];exact (List.getElem?_eq_some_iff.1 hy).1
  obtain⟨y',hy',ho'⟩:=h2 j M[j] (by rw[List.getElem?_eq_getElem (by omega)])
  rw[hy] at hy';cases hy';exact (ho'.lt g hg).2
 refine⟨(h13.stored k v3).1,by simpa using h0,fun i q hq=>?_,fun i j y u g hij hyi hyj hg1=>?_⟩
 ·by_cases hik:i=k
  ·subst hik
   rw[List.getElem?_set_self (by omega)] at hq
   cases hq
   refine⟨v3,by rw[List.getElem?_set_self (by omega)],zDc ho fun g hg2=>Below.heap_setCell _ _ _ _ ?_⟩
   have:=(ho.lt g hg2).1;simp only;omega
  ·rw[List.getElem?_set_ne (by omega)] at hq
   obtain⟨y,hy,hoy2⟩:=h2 i q hq;refine⟨y,by rw[List.getElem?_set_ne (by omega)];exact hy,?_⟩
   have h23:w3.ownsRow (B+1) 3 1 y q.length (q.map (Value.int .i64)):=by
    refine hoy2.kept hg ?_;cases hyb:y.ownBlock with
    | none=>exact Or.inl rfl
    | some g=>exact Or.inr fun he=>h4 i k y x g hik hy hx hyb he.symm
   refine zDc h23 fun g hg2=>Below.heap_setCell _ _ _ _ ?_
   have:=(hoy2.lt g hg2).1;simp only;omega
 ·by_cases hik:i=k
  ·subst hik
   rw[List.getElem?_set_self (by omega)] at hyi
   cases hyi
   rw[List.getElem?_set_ne (by omega)] at hyj
   rcases hat with hat | hat
   ·rw[hat] at hg1
    exact h4 _ j x u g hij hx hyj hg1
   ·rw[hat] at hg1
    intro hu;have:=hold j u (Ne.symm hij) hyj g hu;have:=Option.some.inj hg1;omega
  ·rw[List.getElem?_set_ne (by omega)] at hyi
   by_cases hjk:j=k
   ·subst hjk
    rw[List.getElem?_set_self (by omega)] at hyj
    cases hyj
    rcases hat with hat | hat
    ·rw[hat]
     exact h4 i _ y x g hij hyi hx hg1
    ·rw[hat]
     intro hu;have:=hold i y hij hyi g hg1;have:=Option.some.inj hu;omega
   ·rw[List.getElem?_set_ne (by omega)] at hyj
    exact h4 i j y u g hij hyi hyj hg1
theorem zE3.rarg {w:World} {B n:Nat} {cells:List Value} {M:Sto} (h:zE3 w B n cells M):RArg w (.slice (some ⟨B,0,none⟩) n n) M:=by
 obtain⟨h1,h0,h2,_⟩:=h;have hB:B<w.heap.size:=(h1.lt B rfl).2;have hmx:n≤maxLen:=by
  rcases h1.2 with ⟨h',_⟩ | ⟨g,cap,cur,h',_,_,hc1,hc2,_⟩
  ·cases h'
  ·exact Nat.le_trans hc1 hc2
 refine⟨_,n,by rw[h0],⟨by omega,hmx⟩,fun i r hr=>?_⟩
 have hi:i<n:=by rw[←h0];exact (List.getElem?_eq_some_iff.1 hr).1
 obtain⟨x,hx,ho⟩:=h2 i r hr;exact⟨B,0,x,rfl,hB,by rw[Nat.zero_add,h1.cellAt i (by omega)];exact hx,zFk ho⟩
theorem zLr (vs:List MVar) (hva:zAQ vs) (p:Nat) (hp:∀i,p.testBit i=true→(zAE vs).testBit i=true):∀l∈zBY vs p,0≤l.var∧l.var<(vs.length:Int)∧-100≤l.n∧l.n≤100:=by
 intro l hl;unfold zBY at hl;obtain⟨i,hi,rfl⟩:=List.mem_map.1 hl;unfold zDg at hi;have hb:=hp i (List.mem_filter.1 hi).2;unfold zAE ofP at hb;rw[zAd vs hva.1] at hb;simp only[Bool.and_eq_true,decide_eq_true_eq] at hb;have h1:=hva.2 (i / 6) hb.1;have h2:=hva.1.2 (i / 6);simp only;omega
theorem zLs (ls:Cla) (k:Nat) (l:MLit) (h:ls[k]? = some l) (s:Sto):zBi (ls.take (k+1)) s=(zBi (ls.take k) s).set l.var.toNat ((zBi (ls.take k) s).getD l.var.toNat []++[l.n]):=by
 rw[List.take_add_one,h];generalize ls.take k=q
 induction q generalizing s with
 | nil=>simp[zBi]
 | cons x r ih=>simp only[List.cons_append];unfold zBi;exact ih _
theorem zEh:∀(c:Cla) (s:Sto) (v:Nat),((zBi c s).getD v []).length≤(s.getD v []).length+c.length
 | [],s,v=>by simp[zBi]
 | l :: r,s,v=>by
   unfold zBi;have:=zEh r (s.set l.var.toNat (s.getD l.var.toNat []++[l.n])) v;have h2:((s.set l.var.toNat (s.getD l.var.toNat []++[l.n])).getD v []).length≤(s.getD v []).length+1:=by
    by_cases he:l.var.toNat=v
    ·subst he
     by_cases hl:l.var.toNat<s.length
     ·simp[List.getD_eq_getElem?_getD,hl]
     ·simp[List.getD_eq_getElem?_getD,Nat.le_of_not_lt hl]
    ·simp[List.getD_eq_getElem?_getD,he]
   rw[List.length_cons];omega
theorem zKf {base:Nat} {w:World} {a:Option Addr} {c:Nat} {l:Cla} (h:LOwn base w (.slice a l.length c) l) (i:Nat) (t:MLit) (hi:l[i]? = some t):∃b off,a=some ⟨b,off,none⟩∧b<w.heap.size ∧
 w.cell? ⟨b,off+i * 3,none⟩=some (.int .i64 t.var)∧w.cell? ⟨b,off+i * 3+1,none⟩=some (.int .i64 t.op)∧w.cell? ⟨b,off+i * 3+2,none⟩=some (.int .i64 t.n):=by
 obtain⟨a',c',he,_,h2⟩:=h.arg;cases he
 exact h2 i t hi
theorem zN2 (vs:List MVar) (hva:zAQ vs) (p:Nat) (hp:∀i,p.testBit i=true→(zAE vs).testBit i=true) (sv:Value) (w:World) (hv:VArg w sv vs) (hT:TabT w) :
 Calls Tryz.prog 125 #[sv,.int .u64 p] w fun e w'=>∃B cells,e=.returned (.slice (some ⟨B,0,none⟩) vs.length vs.length)∧zE3 w' B vs.length cells (zAb vs p)∧w.heap.size≤B∧Below w.heap.size w w':=by
 have h6:=hva.1.1;have HLT:Hid (∀Y,Below w.heap.size w Y→Calls Tryz.prog 154 #[sv,.int .u64 p] Y fun e w'=>∃x,e=.returned x∧LOwn Y.heap.size w' x (zBY vs p)∧Below Y.heap.size Y w'):=fun Y hY=>zHg vs hva p hp sv Y (VArg.below hY hv) (hT.below hY)
 have HBD:Hid (∀l∈zBY vs p,0≤l.var∧l.var<(vs.length:Int)∧-100≤l.n∧l.n≤100):=zLr vs hva p hp;have hl36:=zD7 vs p;unfold zAb;obtain⟨ls,hls⟩:∃ls,zBY vs p=ls:=⟨_,rfl⟩;rw[hls] at HLT HBD hl36 ⊢;obtain⟨a,c,rfl,_,_⟩:=hv;obtain⟨n,hn⟩:∃n,vs.length=n:=⟨_,rfl⟩;rw[hn] at HLT HBD h6 ⊢;obtain⟨wm,hrun,hrows,hbm⟩:=zN1 n h6 w;have HROWS:Hid (zE3 wm w.heap.size n (List.replicate n (.slice none 0 0)) (List.replicate n [])):=by
  obtain⟨k1,k2,k3⟩:=hrows (List.replicate n []);refine⟨k1,by simp,fun i r hr=>?_,fun i j x y g _ hx _ hg=>?_⟩
  ·have hi:i<n:=by have:=(List.getElem?_eq_some_iff.1 hr).1;simpa using this
   have:r=[]:=by rw[List.getElem?_replicate,if_pos hi] at hr;exact (Option.some.inj hr).symm
   subst this;exact⟨_,k3 i (Nat.zero_le _) hi,World.ownsRow_nil _ _ _ _⟩
  ·rw[List.getElem?_replicate] at hx
   split at hx
   ·cases hx;cases hg
   ·cases hx
 have HBM:Hid (Below w.heap.size w wm):=hbm;obtain⟨B,hB⟩:∃B,B=w.heap.size:=⟨_,rfl⟩;rw[←hB] at hrun HROWS;have hBw:w.heap.size≤B:=by omega
 obtain⟨i0,hi,hz0,hz1,hz2⟩:=info_parts Tryz.infoInt;clear hrows hbm hB hls hva hp hT hn;go_enter Tryz.func125,Tryz.ntmps125
 go_wp2_with fail
 clear hrun;refine (HLT.out _ HBM.out).mono ?_;rintro e w1 ⟨x,rfl,hown,hb1⟩;obtain⟨K,hK⟩:∃K,wm.heap.size=K:=⟨_,rfl⟩;rw[hK] at hown;have HLO:Hid (LOwn K w1 x ls):=hown;have HG1:Hid (zE3 w1 B n (List.replicate n (.slice none 0 0)) (List.replicate n [])):=HROWS.out.kept hb1;have HB1:Hid (Below w.heap.size w w1):=HBM.out.trans (hb1.mono HBM.out.size);obtain⟨al,cl,rfl⟩:=zAC (show w1.ownsRow _ _ _ _ _ _ from hown)
 clear hK hown hb1 HROWS HBM HLT;go_wp2_with fail
 go_loopw [15] (fun i wr=>∃(k:Nat) (cells:List Value),k≤ls.length∧i=.int .i64 k∧zE3 wr B n cells (zBi (ls.take k) (List.replicate n []))∧LOwn K wr (.slice al (List.length ls) cl) ls∧Below w.heap.size w wr) (fun i _=>ls.length - (intOf i).toNat)
 case atStart=>exact⟨0,_,by omega,rfl,HG1.out,HLO.out,HB1.out⟩
 case round =>
  obtain⟨k,cells,hk,rfl,hg,hlo,hbw⟩:=hrel;have HG:Hid (zE3 wr B n cells (zBi (ls.take k) (List.replicate n []))):=hg;have HLO2:Hid (LOwn K wr (.slice al (List.length ls) cl) ls):=hlo;have HBW:Hid (Below w.heap.size w wr):=hbw;clear hg hlo hbw;by_cases hlt:k<ls.length
  ·obtain⟨l,hl⟩:∃l,ls[k]? = some l:=⟨ls[k],by simp[hlt]⟩
   have HN:Hid (zBi (ls.take (k+1)) (List.replicate n [])=(zBi (ls.take k) (List.replicate n [])).set l.var.toNat ((zBi (ls.take k) (List.replicate n [])).getD l.var.toNat []++[l.n])):=zLs ls k l hl _;obtain⟨b0,b1,b2,b3⟩:=HBD.out l (List.mem_of_getElem? hl);obtain⟨M,hM⟩:∃M,zBi (ls.take k) (List.replicate n [])=M:=⟨_,rfl⟩;rw[hM] at HN HG;have hML:M.length=n:=HG.out.2.1;obtain⟨lv,lo,ln⟩:=l;simp only at b0 b1 b2 b3;obtain⟨v,rfl⟩:∃v:Nat,lv=(v:Int):=⟨lv.toNat,by omega⟩
   obtain⟨r,hr⟩:∃r,M[v]? = some r:=⟨M[v],by rw[List.getElem?_eq_getElem (by omega)]⟩
   have HR:Hid (M[v]? = some r):=hr;have HN2:Hid (zBi (ls.take (k+1)) (List.replicate n [])=M.set v (r++[ln])):=by
    show _=_;rw[HN.out];simp only[Int.toNat_natCast];rw[List.getD_eq_getElem?_getD,hr];rfl
   have hrl:r.length≤36:=by
    have:=zEh (ls.take k) (List.replicate n []) v;rw[hM,List.getD_eq_getElem?_getD,hr] at this;simp only[Option.getD_some,List.length_take] at this;have h0:((List.replicate n ([]:List Int)).getD v []).length=0:=by simp[List.getD_eq_getElem?_getD,show v<n by omega]
    omega
   obtain⟨htop,_,hrws,_⟩:=HG.out;obtain⟨x,hx,hox⟩:=hrws v r hr;have HX:Hid (cells[v]? = some x):=hx;obtain⟨ax,cx,rfl⟩:=zAC hox;have hcx:wr.cell? ⟨B,v,none⟩=some (.slice ax r.length cx):=by rw[htop.cellAt v (by omega)];exact hx
   have hlB:B<wr.heap.size:=(htop.lt B rfl).2;obtain⟨ad,off,hal,hlb,hc0,hc1,hc2⟩:=zKf HLO2.out k _ hl;subst hal;simp only at hc0 hc1 hc2;have hbs:=HBW.out.size;clear hl hr hx hM htop hrws HN;go_wp2_with fail
   obtain⟨Y,hY⟩:∃Y,wr.alloc (.cells #[.int .i64 (v:Int),.int .i64 lo,.int .i64 ln] 76)=Y:=⟨_,rfl⟩;rw[hY];have hBY:Below wr.heap.size wr Y:=by rw[←hY];exact zAA _ _
   have HGY:Hid (zE3 Y B n cells M):=HG.out.kept hBY;have HLOY:Hid (LOwn K Y (.slice (some ⟨ad,off,none⟩) (List.length ls) cl) ls):=zAB (show wr.ownsRow _ _ _ _ _ _ from HLO2.out) hBY
   have HBY:Hid (Below w.heap.size w Y):=HBW.out.trans (hBY.mono hbs);have hoxY:Y.ownsRow (B+1) 3 1 (.slice ax r.length cx) r.length (r.map (Value.int .i64)):=zAB hox hBY;have d0:Y.cell? ⟨wr.heap.size,0,none⟩=some (.int .i64 (v:Int)):=by rw[←hY];simp
   have d2:Y.cell? ⟨wr.heap.size,2,none⟩=some (.int .i64 ln):=by rw[←hY];simp
   have dl:wr.heap.size<Y.heap.size:=by rw[←hY];simp
   have dB:Y.cell? ⟨B,v,none⟩=some (.slice ax r.length cx):=(hBY.cell (p:=⟨B,v,none⟩) hlB).trans hcx;have dlB:B<Y.heap.size:=by omega
   have hvn:v<n:=by omega
   have hvn2:(v:Int)<(n:Int):=by omega
   obtain⟨q,hq⟩:∃q,wr.heap.size=q:=⟨_,rfl⟩;have HXQ:Hid (some q≠(Value.slice ax r.length cx).ownBlock):=fun h=>by have:=(hox.lt q h.symm).2;omega
   rw[hq] at d0 d2 dl ⊢;clear hc0 hc1 hc2 hcx hox hY hBY hq HG HLO2 hlB hlb;go_region_law
    (first
      | (rw[if_pos (by rfl)];refine zBP _ _ _ 42 rfl (B+1) 3 i0 _ 1 8 Tryz.underlying42 hi hz0 hz1 hz2 rfl (by decide) _ _ _ rfl (hoxY.drew.alloc _) ⟨Y.heap.size,0,none⟩ 1 1 [.int .i64 ln] rfl rfl (zRE Y.drew ln) (by intro u hu;simp at hu;subst hu;rfl) ?_ ?_ ?_ ?_;(unfold maxLen;omega);omega;(simp;omega);intro v4 w4 hown4 hg4 hat4;obtain⟨av,cv,hv4⟩:=zAC hown4;subst hv4;have ht4:w4.ownsRow B 42 1 (.slice (some ⟨B,0,none⟩) n n) n cells:=(HGY.out.1.drew.alloc _).kept hg4 (Or.inr (fun h=>by have:=(hoxY.lt B h.symm).1;omega));have hcB:w4.cell? ⟨B,v,none⟩=some (.slice ax r.length cx):=by rw[ht4.cellAt v (by omega)];exact HX.out
         have hfB:w4.frozen? ⟨B,v,none⟩=false:=ht4.frozenAt v;have hl4:B<w4.heap.size:=(ht4.lt B rfl).2;have e0:w4.cell? ⟨q,0,none⟩=some (.int .i64 (v:Int)):=hg4.cell ((((Below.refl _ _).drew.alloc (Nat.le_refl _) _:Below Y.heap.size Y _).cell (p:=⟨q,0,none⟩) dl).trans d0) HXQ.out;have el:q<w4.heap.size:=by have:=hg4.size;simp at this;omega))
   all_goals
    have hown5:w4.ownsRow (B+1) 3 1 (.slice av (r.length+1) cv) (r++[ln]).length ((r++[ln]).map (Value.int .i64)):=by
     rw[List.length_append,List.map_append];exact hown4
    have HP:Hid (zE3 (w4.setCell ⟨B,v,none⟩ (.slice av (r.length+1) cv)) B n (cells.set v (.slice av (r.length+1) cv)) (M.set v (r++[ln]))) :=
     (HGY.out.kept ((Below.refl _ _).drew.alloc (Nat.le_refl _) _)).push HR.out HX.out hown5 hg4 hat4
    have HB5:Hid (Below w.heap.size w (w4.setCell ⟨B,v,none⟩ (.slice av (r.length+1) cv))) :=
     ((HBY.out.drew.alloc HBY.out.size _).grown hg4 (by have:=HBY.out.size;simp;omega) (fun g h=>by have:=(hoxY.lt g h).1;omega)).setCell (by simp only;omega) _
    have HL5:Hid (LOwn K (w4.setCell ⟨B,v,none⟩ (.slice av (r.length+1) cv)) (.slice (some ⟨ad,off,none⟩) (List.length ls) cl) ls):=by
     have h1:(Y.drew.alloc (.cells #[.int .i64 ln] 3)).ownsRow K 76 3 (.slice (some ⟨ad,off,none⟩) (List.length ls) cl) ls.length (zBI ls):=(show Y.drew.ownsRow _ _ _ _ _ _ from HLOY.out).alloc _
     have h2:=zBE h1 hg4 (hoxY.drew.alloc _) (by decide)
     rcases ht4.2 with ⟨h',_⟩ | ⟨g,cap,cur,h',_,hh,_⟩
     ·cases h'
     ·cases h'
      exact zAX h2 hh (by decide) v _
    go_wp2
    go_roundw
    case rel=>exact⟨k+1,_,by omega,by go_num,by rw[HN2.out];exact HP.out,HL5.out,HB5.out⟩
    case measure=>simp[intOf];omega
  ·have HN:Hid (ls.take k=ls):=List.take_of_length_le (by omega)
   go_wp2
   go_ret
   rw[HN.out] at HG;exact⟨_,_,rfl,HG.out,hBw,HBW.out⟩
structure KV where
 vv:Value
 vc:Value
 vr:Value
 vl:Value
 c:MCon
def kvC (x:KV):List Value:=[.int .i64 x.c.kind,x.vv,x.vc,.int .i64 x.c.n,x.vr,x.vl]
def KOk (w:World) (x:KV):Prop:=KArg w x.vv x.vc x.vr x.vl x.c
theorem zTE:∀(r:List KV) (i j:Nat) (x:KV),r[i]? = some x→j<6→(r.flatMap kvC)[i * 6+j]? = (kvC x)[j]?
 | [],i,j,x,h,_=>by simp at h
 | y :: r,0,j,x,h,hj=>by
   simp at h;subst h;rw[List.flatMap_cons,List.getElem?_append_left (by simp[kvC];omega)]
   simp
 | y :: r,i+1,j,x,h,hj=>by
   rw[List.flatMap_cons,List.getElem?_append_right (by simp[kvC];omega)]
   have:(i+1) * 6+j - (kvC y).length=i * 6+j:=by simp[kvC];omega
   rw[this];exact zTE r i j x (by simpa using h) hj
theorem zRF {w:World} {v:Value} {l:List MCon} (h:CArg w v l):∃kvs:List KV,kvs.map (·.c)=l∧(∀x∈kvs,KOk w x)∧∃a c,v=.slice a kvs.length c ∧
 ∀(i:Nat) (x:KV),kvs[i]? = some x→∃b off,a=some ⟨b,off,none⟩∧b<w.heap.size∧∀(j:Nat) (u:Value),(kvC x)[j]? = some u→w.cell? ⟨b,off+i * 6+j,none⟩=some u:=by
 obtain⟨a,c,rfl,_,hr⟩:=h;have key:∀i:Fin l.length,∃x:KV,x.c=l[i]∧KOk w x∧∃b off,a=some ⟨b,off,none⟩∧b<w.heap.size∧∀(j:Nat) (u:Value),(kvC x)[j]? = some u→w.cell? ⟨b,off+i.1 * 6+j,none⟩=some u:=by
  intro i;obtain⟨b,off,vv,vc,vr,vl,ha,hb,c0,c1,c2,c3,c4,c5,hk⟩:=hr i.1 l[i] (by simp)
  refine⟨⟨vv,vc,vr,vl,l[i]⟩,rfl,hk,b,off,ha,hb,fun j u hu=>?_⟩
  match j,hu with
  | 0,hu=>simp[kvC] at hu;subst hu;exact c0
  | 1,hu=>simp[kvC] at hu;subst hu;exact c1
  | 2,hu=>simp[kvC] at hu;subst hu;exact c2
  | 3,hu=>simp[kvC] at hu;subst hu;exact c3
  | 4,hu=>simp[kvC] at hu;subst hu;exact c4
  | 5,hu=>simp[kvC] at hu;subst hu;exact c5
 refine⟨List.ofFn fun i=>(key i).choose,?_,?_,a,c,by simp,?_⟩
 ·apply List.ext_getElem
  ·simp
  ·intro i h1 h2
   simp;exact (key ⟨i,h2⟩).choose_spec.1
 ·intro x hx
  obtain⟨i,hi⟩:=List.mem_ofFn.1 hx;rw[←hi];exact (key i).choose_spec.2.1
 ·intro i x hx
  obtain⟨hi,he⟩:=List.getElem?_eq_some_iff.1 hx;have hi':i<l.length:=by simpa using hi
  rw[List.getElem_ofFn] at he;subst he;exact (key ⟨i,hi'⟩).choose_spec.2.2
def zDU (w:World) (B n:Nat) (cells:List Value) (M:List (List KV)):Prop :=
 w.ownsRow B 23 1 (.slice (some ⟨B,0,none⟩) n n) n cells∧M.length=n ∧
 (∀(i:Nat) (r:List KV),M[i]? = some r→∃x,cells[i]? = some x∧w.ownsRow (B+1) 69 6 x r.length (r.flatMap kvC)) ∧
 (∀(i j:Nat) (x y:Value) (g:Nat),i≠j→cells[i]? = some x→cells[j]? = some y→x.ownBlock=some g→y.ownBlock≠some g)
theorem zDU.kept {w w':World} {B n:Nat} {cells:List Value} {M:List (List KV)} (h:zDU w B n cells M) (hb:Below w.heap.size w w'):zDU w' B n cells M:=by
 obtain⟨h1,h0,h2,h3⟩:=h;refine⟨zAB h1 hb,h0,fun i r hr=>?_,h3⟩
 obtain⟨y,hy,hoy⟩:=h2 i r hr;exact⟨y,hy,zAB hoy hb⟩
theorem zDU.push {w w3:World} {B n:Nat} {cells:List Value} {M:List (List KV)} {k:Nat} {r:List KV} {x v3:Value} {z:KV} (h:zDU w B n cells M) (hM:M[k]? = some r) (hx:cells[k]? = some x)
 (ho:w3.ownsRow (B+1) 69 6 v3 (r++[z]).length ((r++[z]).flatMap kvC)) (hg:w.grownBy w3 x.ownBlock) (hat:v3.ownBlock=x.ownBlock∨v3.ownBlock=some w.heap.size) :
 zDU (w3.setCell ⟨B,k,none⟩ v3) B n (cells.set k v3) (M.set k (r++[z])):=by
 obtain⟨h1,h0,h2,h4⟩:=h;obtain⟨y,hy,hoy⟩:=h2 k r hM;rw[hx] at hy;cases hy;have hxK:∀g,x.ownBlock=some g→B+1≤g:=fun g hg=>(hoy.lt g hg).1
 have hB:B<w.heap.size:=(h1.lt B rfl).2;have hne:some B≠x.ownBlock:=fun h=>by have:=hxK B h.symm;omega
 have h13:w3.ownsRow B 23 1 (.slice (some ⟨B,0,none⟩) n n) n cells:=h1.kept hg (Or.inr hne);have hlen:cells.length=n:=by have:=h1.1;omega
 have hkn:k<n:=by rw[←h0];exact (List.getElem?_eq_some_iff.1 hM).1
 have hold:∀(j:Nat) (y:Value),j≠k→cells[j]? = some y→∀g,y.ownBlock=some g→g<w.heap.size:=fun j y hj hy g hg=>by
  have hjn:j<n:=by rw[←hlen];exact (List.getElem?_eq_some_iff.1 hy).1
  obtain⟨y',hy',ho'⟩:=h2 j M[j] (by rw[List.getElem?_eq_getElem (by omega)])
  rw[hy] at hy';cases hy';exact (ho'.lt g hg).2
 refine⟨(h13.stored k v3).1,by simpa using h0,fun i q hq=>?_,fun i j y u g hij hyi hyj hg1=>?_⟩
 ·by_cases hik:i=k
  ·subst hik
   rw[List.getElem?_set_self (by omega)] at hq
   cases hq
   refine⟨v3,by rw[List.getElem?_set_self (by omega)],zDc ho fun g hg2=>Below.heap_setCell _ _ _ _ ?_⟩
   have:=(ho.lt g hg2).1;simp only;omega
  ·rw[List.getElem?_set_ne (by omega)] at hq
   obtain⟨y,hy,hoy2⟩:=h2 i q hq;refine⟨y,by rw[List.getElem?_set_ne (by omega)];exact hy,?_⟩
   have h23:w3.ownsRow (B+1) 69 6 y q.length (q.flatMap kvC):=by
    refine hoy2.kept hg ?_;cases hyb:y.ownBlock with
    | none=>exact Or.inl rfl
    | some g=>exact Or.inr fun he=>h4 i k y x g hik hy hx hyb he.symm
   refine zDc h23 fun g hg2=>Below.heap_setCell _ _ _ _ ?_
   have:=(hoy2.lt g hg2).1;simp only;omega
 ·by_cases hik:i=k
  ·subst hik
   rw[List.getElem?_set_self (by omega)] at hyi
   cases hyi
   rw[List.getElem?_set_ne (by omega)] at hyj
   rcases hat with hat | hat
   ·rw[hat] at hg1
    exact h4 _ j x u g hij hx hyj hg1
   ·rw[hat] at hg1
    intro hu;have:=hold j u (Ne.symm hij) hyj g hu;have:=Option.some.inj hg1;omega
  ·rw[List.getElem?_set_ne (by omega)] at hyi
   by_cases hjk:j=k
   ·subst hjk
    rw[List.getElem?_set_self (by omega)] at hyj
    cases hyj
    rcases hat with hat | hat
    ·rw[hat]
     exact h4 i _ y x g hij hyi hx hg1
    ·rw[hat]
     intro hu;have:=hold i y hij hyi g hg1;have:=Option.some.inj hu;omega
   ·rw[List.getElem?_set_ne (by omega)] at hyj
    exact h4 i j y u g hij hyi hyj hg1
theorem zDU.carg {W w:World} {B n:Nat} {cells:List Value} {M:List (List KV)} (h:zDU w B n cells M) (hb:Below W.heap.size W w) (hk:∀r∈M,∀x∈r,KOk W x) (i:Nat) (r:List KV) (hr:M[i]? = some r) :
 ∃x,w.cell? ⟨B,i,none⟩=some x∧B<w.heap.size∧CArg w x (r.map (·.c)):=by
 obtain⟨h1,h0,h2,_⟩:=h;have hi:i<n:=by rw[←h0];exact (List.getElem?_eq_some_iff.1 hr).1
 obtain⟨x,hx,ho⟩:=h2 i r hr;refine⟨x,by rw[h1.cellAt i (by omega)];exact hx,(h1.lt B rfl).2,?_⟩
 obtain⟨a,c,rfl⟩:=zAC ho;rcases ho.2 with ⟨h',h''⟩ | ⟨g,cap,cur,h',hg,hh,hc1,hc2,hc3,hc4⟩
 ·injection h' with e1 e2 e3
  have hr0:r=[]:=List.eq_nil_of_length_eq_zero e2;subst hr0 e1 e3;exact⟨none,0,rfl,⟨Nat.le_refl _,by unfold maxLen;omega⟩,fun i t h=>by simp at h⟩
 ·cases h'
  refine⟨_,_,by rw[List.length_map],⟨by rw[List.length_map];exact hc1,hc2⟩,fun j t ht=>?_⟩
  rw[List.getElem?_map] at ht;obtain⟨y,hy,rfl⟩:=Option.map_eq_some_iff.1 ht;have hjl:=(List.getElem?_eq_some_iff.1 hy).1;have hkk:=hk r (List.mem_of_getElem? hr) y (List.mem_of_getElem? hy);have hc:∀q,q<6→w.cell? ⟨g,0+j * 6+q,none⟩=(kvC y)[q]? := fun q hq=>by
   rw[Nat.zero_add,ho.cellAt (j * 6+q) (by omega)]
   exact zTE r j q y hy hq
  have hlt:g<w.heap.size:=(ho.lt g rfl).2;exact⟨g,0,y.vv,y.vc,y.vr,y.vl,rfl,hlt,hc 0 (by omega),hc 1 (by omega),hc 2 (by omega),hc 3 (by omega),hc 4 (by omega),hc 5 (by omega),KArg.below hb hkk⟩
def dueF:List KV→List (List KV)→List (List KV)
 | [],s=>s
 | x :: r,s=>dueF r (s.set (zCW x.c) (s.getD (zCW x.c) []++[x]))
theorem zPa (ls:List KV) (k:Nat) (l:KV) (h:ls[k]? = some l) (s:List (List KV)):dueF (ls.take (k+1)) s=(dueF (ls.take k) s).set (zCW l.c) ((dueF (ls.take k) s).getD (zCW l.c) []++[l]):=by
 rw[List.take_add_one,h];generalize ls.take k=q
 induction q generalizing s with
 | nil=>simp[dueF]
 | cons x r ih=>simp only[List.cons_append];unfold dueF;exact ih _
theorem zG7:∀(l:List KV) (s:List (List KV)),(dueF l s).length=s.length
 | [],s=>rfl
 | x :: r,s=>by unfold dueF;rw[zG7 r];simp
theorem zJl:∀(l:List KV) (s:List (List KV)) (v:Nat),v<s.length→(dueF l s).getD v []=s.getD v []++l.filter (fun x=>zCW x.c==v)
 | [],s,v,_=>by simp[dueF]
 | x :: r,s,v,hv=>by
   unfold dueF;rw[zJl r _ v (by simpa using hv)]
   by_cases he:zCW x.c=v
   ·subst he
    simp[List.getD_eq_getElem?_getD,hv]
   ·have hb:(zCW x.c==v)=false:=by simpa using he
    simp[List.getD_eq_getElem?_getD,he,hb]
theorem zRG (l:List KV) (n:Nat) (r:List KV) (hr:r∈dueF l (List.replicate n [])):∀x∈r,x∈l:=by
 obtain⟨v,hv⟩:=List.mem_iff_getElem?.1 hr;have hl:=(List.getElem?_eq_some_iff.1 hv).1;rw[zG7] at hl;have:=zJl l (List.replicate n []) v hl;rw[List.getD_eq_getElem?_getD,hv] at this;simp only[Option.getD_some] at this;have h0:(List.replicate n ([]:List KV)).getD v []=[]:=by rw[List.getD_eq_getElem?_getD,List.getElem?_replicate];split <;> rfl
 rw[h0,List.nil_append] at this;intro x hx;rw[this] at hx;exact (List.mem_filter.1 hx).1
theorem zRH (l:List KV) (n v:Nat) (hv:v<n) (r:List KV) (hr:(dueF l (List.replicate n []))[v]? = some r):r.map (·.c)=dueP (l.map (·.c)) v:=by
 have:=zJl l (List.replicate n []) v (by simpa using hv)
 rw[List.getD_eq_getElem?_getD,hr] at this;simp only[Option.getD_some] at this;have h0:(List.replicate n ([]:List KV)).getD v []=[]:=by rw[List.getD_eq_getElem?_getD,List.getElem?_replicate];split <;> rfl
 rw[h0,List.nil_append] at this;rw[this];unfold dueP;rw[List.filter_map];rfl
end Go.Proofs.YtndcpnlaadikoaaGreatDoor
