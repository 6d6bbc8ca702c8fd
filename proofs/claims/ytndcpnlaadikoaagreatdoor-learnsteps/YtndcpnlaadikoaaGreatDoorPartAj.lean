/- What the proof leans on, part 10. -/
import Derived.Test.YtndcpnlaadikoaaGreatDoorPartAi
namespace Go.Proofs.YtndcpnlaadikoaaGreatDoor
open Go.RowKit
def twoM:Mod:=⟨[⟨⟨#[120]⟩,0,2⟩,⟨⟨#[121]⟩,0,2⟩],[⟨1,[0,1],[1,-1],-1,[],[]⟩],1,1⟩
theorem zES:zAP twoM=0:=by kernel_rfl
theorem zFB (w:World) (o1 o2 o3 o4 o5:Obj) :
 (((((w.alloc o1).alloc o2).alloc o3).alloc o4).alloc o5).heap[w.heap.size+1]? = some o2∧(((((w.alloc o1).alloc o2).alloc o3).alloc o4).alloc o5).heap[w.heap.size+1+1]? = some o3 ∧
 (((((w.alloc o1).alloc o2).alloc o3).alloc o4).alloc o5).heap[w.heap.size+1+1+1]? = some o4∧(((((w.alloc o1).alloc o2).alloc o3).alloc o4).alloc o5).heap[w.heap.size+1+1+1+1]? = some o5:=by
 refine⟨?_,?_,?_,?_⟩
 all_goals
  show (((((w.heap.push _).push _).push _).push _).push _)[_]? = _
  simp only[Array.getElem?_push,Array.size_push]
  repeat first | rw[if_pos (by omega)] | rw[if_neg (by omega)]
 all_goals rfl
set_option maxHeartbeats 400000 in
set_option maxRecDepth 100000 in
theorem zIY (w:World) :
 Calls Tryz.prog 37 #[] w fun e w'=>∃vs cs,e=.returned (modV vs cs twoM)∧MArg w' vs cs twoM∧Below w.heap.size w w':=by
 go_enter Tryz.func37,Tryz.ntmps37
 go_wp2
 refine bodyPost_ret (v:=modV (.slice (some ⟨w.heap.size+1,0,none⟩) 2 2) (.slice (some ⟨w.heap.size+1+1+1+1,0,none⟩) 1 1) twoM) (by simp[results,Tryz.results37,go_sem,modV,twoM]) rfl ⟨_,_,rfl,⟨?_,?_⟩,?_⟩
 ·refine⟨_,_,rfl,⟨by decide,by unfold maxLen;decide⟩,fun i t ht=>?_⟩
  have hb:=(zFB w (.cells #[.slice (some ⟨w.heap.size+1,0,none⟩) 2 2,.slice (some ⟨w.heap.size+1+1+1+1,0,none⟩) 1 1,.int .i64 1,.int .i64 1] 25) (.cells #[.string ⟨#[120]⟩,.int .i64 0,.int .i64 2,.string ⟨#[121]⟩,.int .i64 0,.int .i64 2] 67) (.cells #[.int .i64 0,.int .i64 1] 3) (.cells #[.int .i64 1,.int .i64 (-1)] 3) (.cells #[.int .i64 1,.slice (some ⟨w.heap.size+1+1,0,none⟩) 2 2,.slice (some ⟨w.heap.size+1+1+1,0,none⟩) 2 2,.int .i64 (-1),.slice none 0 0,.slice none 0 0] 69)).1
  match i,ht with
  | 0,ht=>cases ht;exact⟨by unfold maxLen;decide,_,_,rfl,by simp,by rw[Lib.cell_of_heap hb];rfl,by rw[Lib.cell_of_heap hb];rfl,by rw[Lib.cell_of_heap hb];rfl⟩
  | 1,ht=>cases ht;exact⟨by unfold maxLen;decide,_,_,rfl,by simp,by rw[Lib.cell_of_heap hb];rfl,by rw[Lib.cell_of_heap hb];rfl,by rw[Lib.cell_of_heap hb];rfl⟩
 ·refine⟨_,_,rfl,⟨by decide,by unfold maxLen;decide⟩,fun i t ht=>?_⟩
  obtain⟨_,hb2,hb3,hb4⟩:=zFB w (.cells #[.slice (some ⟨w.heap.size+1,0,none⟩) 2 2,.slice (some ⟨w.heap.size+1+1+1+1,0,none⟩) 1 1,.int .i64 1,.int .i64 1] 25) (.cells #[.string ⟨#[120]⟩,.int .i64 0,.int .i64 2,.string ⟨#[121]⟩,.int .i64 0,.int .i64 2] 67) (.cells #[.int .i64 0,.int .i64 1] 3) (.cells #[.int .i64 1,.int .i64 (-1)] 3) (.cells #[.int .i64 1,.slice (some ⟨w.heap.size+1+1,0,none⟩) 2 2,.slice (some ⟨w.heap.size+1+1+1,0,none⟩) 2 2,.int .i64 (-1),.slice none 0 0,.slice none 0 0] 69)
  match i,ht with
  | 0,ht =>
    cases ht
    refine⟨_,_,.slice (some ⟨w.heap.size+1+1,0,none⟩) 2 2,.slice (some ⟨w.heap.size+1+1+1,0,none⟩) 2 2,.slice none 0 0,.slice none 0 0,rfl,by simp,by rw[Lib.cell_of_heap hb4];rfl,by rw[Lib.cell_of_heap hb4];rfl,by rw[Lib.cell_of_heap hb4];rfl,by rw[Lib.cell_of_heap hb4];rfl,by rw[Lib.cell_of_heap hb4];rfl,by rw[Lib.cell_of_heap hb4];rfl,?_⟩
    refine⟨⟨_,_,rfl,⟨by decide,by unfold maxLen;decide⟩,fun i z hz=>?_⟩,⟨_,_,rfl,⟨by decide,by unfold maxLen;decide⟩,fun i z hz=>?_⟩,⟨_,_,rfl,⟨by decide,by unfold maxLen;decide⟩,fun i z hz=>by simp at hz⟩,⟨_,_,rfl,⟨by decide,by unfold maxLen;decide⟩,fun i z hz=>by simp at hz⟩⟩
    ·match i,hz with
     | 0,hz=>cases hz;exact⟨_,_,rfl,by simp,by rw[Lib.cell_of_heap hb2];rfl⟩
     | 1,hz=>cases hz;exact⟨_,_,rfl,by simp,by rw[Lib.cell_of_heap hb2];rfl⟩
    ·match i,hz with
     | 0,hz=>cases hz;exact⟨_,_,rfl,by simp,by rw[Lib.cell_of_heap hb3];rfl⟩
     | 1,hz=>cases hz;exact⟨_,_,rfl,by simp,by rw[Lib.cell_of_heap hb3];rfl⟩
 ·exact (((((Below.refl _ _).alloc (Nat.le_refl _) _).alloc (by simp) _).alloc (by simp;omega) _).alloc (by simp;omega) _).alloc (by simp;omega) _
abbrev Sto:=List (List Int)
def zIZ (v:MVar) (n:Int):Bool:=decide (v.lo≤n)&&decide (n≤v.hi)
def zDx:List Int→Bool
 | a :: b :: r=>decide (a<b)&&zDx (b :: r)
 | _=>true
def zJN (vs:List MVar) (s:Sto):Bool:=(vs.zip s).all fun p=>p.2.all (zIZ p.1)
def zHP (vs:List MVar) (s:Sto):Int :=
 if s.length=vs.length then (if zJN vs s then (if s.all zDx then 0 else 4) else 3) else 1
def hasB (l:List Int) (n:Int):Bool:=l.any (fun k=>n==k)
def zAG (s:Sto):Bool:=s.any fun r=>decide (r.length=0)
def zDh (lo hi:Int):List Int:=(List.range (hi+1 - lo).toNat).map fun (k:Nat)=>lo+(k:Int)
def zAK (vs:List MVar):Sto:=vs.map fun v=>zDh v.lo v.hi
theorem zDy (l:List Int) (n:Int):hasB l n=true↔n∈l:=by
 unfold hasB;rw[List.any_eq_true]
 constructor
 ·rintro ⟨k,hk,he⟩;rwa [beq_iff_eq.1 he]
 ·intro h;exact⟨n,h,by simp⟩
theorem zF5 (l:List Int):zDx l=true↔l.Pairwise (·<·):=by
 induction l with
 | nil=>simp[zDx]
 | cons a r ih =>
   cases r with
   | nil=>simp[zDx]
   | cons b r =>
     simp only[zDx,Bool.and_eq_true,decide_eq_true_eq]
     rw[ih]
     constructor
     ·rintro ⟨hab,hp⟩
      refine List.pairwise_cons.2 ⟨fun c hc=>?_,hp⟩
      rcases List.mem_cons.1 hc with rfl | hc
      ·exact hab
      ·have:=(List.pairwise_cons.1 hp).1 c hc;omega
     ·intro hp
      exact⟨(List.pairwise_cons.1 hp).1 b (List.mem_cons_self ..),(List.pairwise_cons.1 hp).2⟩
theorem zIa {α β:Type} (p:α×β→Bool):∀(a:List α) (b:List β),(a.zip b).all p=true↔∀(i:Nat) x y,a[i]? = some x→b[i]? = some y→p (x,y)=true
 | [],b=>by simp
 | x :: a,[]=>by simp
 | x :: a,y :: b=>by
   rw[List.zip_cons_cons,List.all_cons,Bool.and_eq_true,zIa p a b]
   constructor
   ·rintro ⟨h0,h1⟩ i u v hu hv
    cases i with
    | zero=>simp at hu hv;subst hu;subst hv;exact h0
    | succ i=>exact h1 i u v (by simpa using hu) (by simpa using hv)
   ·intro h
    exact⟨h 0 x y rfl rfl,fun i u v hu hv=>h (i+1) u v (by simpa using hu) (by simpa using hv)⟩
theorem zFC (vs:List MVar) (s:Sto):zHP vs s=0↔s.length=vs.length∧zJN vs s=true∧s.all zDx=true:=by
 unfold zHP
 by_cases h1:s.length=vs.length
 ·cases h2:zJN vs s <;> cases h3:s.all zDx <;> simp[h1]
 ·simp[h1]
def zA6 (s:Sto) (p:Nat→Int→Bool):Sto:=s.mapIdx fun k r=>r.filter (p k)
theorem zAQ (s:Sto) (p:Nat→Int→Bool):(zA6 s p).length=s.length:=by simp[zA6]
theorem zBY (s:Sto) (p:Nat→Int→Bool) (k:Nat) (r:List Int) (h:s[k]? = some r):(zA6 s p)[k]? = some (r.filter (p k)):=by
 simp[zA6,h]
theorem zAl (s:Sto) (p:Nat→Int→Bool) (k:Nat) (q:List Int) (h:(zA6 s p)[k]? = some q):∃r,s[k]? = some r∧q=r.filter (p k):=by
 have hk:k<s.length:=by rw[←zAQ s p];exact (List.getElem?_eq_some_iff.1 h).1
 refine⟨s[k],by simp[hk],?_⟩
 rw[zBY s p k s[k] (by simp[hk])] at h
 exact (Option.some.inj h).symm
theorem zGh (s t:Sto) (hl:s.length=t.length) (h:∀(k:Nat) r q,s[k]? = some r→t[k]? = some q→r=q):s=t:=by
 apply List.ext_getElem?
 intro k
 by_cases hk:k<s.length
 ·have h1:s[k]? = some s[k]:=by simp[hk]
  have h2:t[k]? = some (t[k]'(by omega)):=by simp[show k<t.length by omega]
  rw[h1,h2,h k _ _ h1 h2]
 ·rw[List.getElem?_eq_none (by omega),List.getElem?_eq_none (by omega)]
def litE (vs:List MVar) (l:MLit):Int :=
 if l.var<0∨(vs.length:Int)≤l.var then 5 else if l.op<1∨4<l.op then 7 else if l.n < -1000∨1000<l.n then 3 else 0
def zCe (m:Mod) (l:MLit):Int:=if zAP m=0 then litE m.vars l else zAP m
def oppL (l:MLit):MLit:=if l.op=1 then ⟨l.var,2,l.n+1⟩ else if l.op=2 then ⟨l.var,1,l.n - 1⟩ else if l.op=3 then ⟨l.var,4,l.n⟩ else ⟨l.var,3,l.n⟩
def zIb:MLit:=⟨0,0,0⟩
def zCQ (m:Mod) (l:MLit):MLit×Int :=
 if zCe m l=0 then (if litE m.vars (oppL l)=0 then (oppL l,0) else (zIb,litE m.vars (oppL l))) else (zIb,zCe m l)
def zNS (r:List Int) (l:MLit):Nat:=(r.filter fun x=>litV x l).length
def zHQ (s:Sto) (l:MLit):List Int:=s.getD l.var.toNat []
theorem zK5 (vs:List MVar) (l:MLit):litE vs l=0↔(0≤l.var∧l.var<vs.length)∧(1≤l.op∧l.op≤4)∧(-1000≤l.n∧l.n≤1000):=by
 unfold litE
 split
 ·constructor
  ·intro h;cases h
  ·intro h;omega
 ·split
  ·constructor
   ·intro h;cases h
   ·intro h;omega
  ·split
   ·constructor
    ·intro h;cases h
    ·intro h;omega
   ·constructor
    ·intro _;omega
    ·intro _;rfl
theorem zK6 (m:Mod) (l:MLit) (h:zCe m l=0):zAP m=0∧litE m.vars l=0:=by
 unfold zCe at h
 split at h
 ·rename_i h0;exact⟨h0,h⟩
 ·contradiction
abbrev Cla:=List MLit
def claE (vs:List MVar) (c:Cla):Int:=if 40<c.length then 2 else zAe (c.map (litE vs))
def oneB (c:Cla) (k:Nat) (z:Int):Bool:=c.any fun l=>decide (l.var=(k:Int))&&litV z l
def zC7 (s:Sto) (c:Cla):Cla:=c.filter fun l=>decide (zNS (zHQ s l) l≠0)
def zDz (vs:List MVar) (l:List Cla):Int:=if 600<l.length then 2 else zAe (l.map (claE vs))
def zBE (s:Sto) (l:MLit):Bool:=(zHQ s l).any fun z=>litV z l
def zA0 (s:Sto) (c:Cla):Sto :=
 if zAG s then s
 else match zC7 s c with
  | []=>zA6 s fun _ _=>false
  | l0 :: rest=>if rest.all (fun l=>decide (l.var=l0.var)) then zA6 s (fun k z=>decide ((k:Int)≠l0.var) || oneB c k z) else s
def zBW (s:Sto) (c:Cla):Sto:=zA6 s fun k z=>!oneB c k z
theorem zMJ (r:List Int) (l:MLit):zNS r l≠0↔∃x∈r,litV x l=true:=by
 unfold zNS
 rw[Ne,List.length_eq_zero_iff,List.filter_eq_nil_iff]
 constructor
 ·intro h
  apply Classical.byContradiction
  intro hn
  exact h fun x hx hl=>hn ⟨x,hx,hl⟩
 ·rintro ⟨x,hx,hl⟩ h
  exact h x hx hl
theorem zJO (s:Sto) (c:Cla) (l:MLit):l∈zC7 s c↔l∈c∧∃x∈zHQ s l,litV x l=true:=by
 unfold zC7
 rw[List.mem_filter,decide_eq_true_eq,zMJ]
theorem zJP (c:Cla) (k:Nat) (z:Int):oneB c k z=true↔∃l∈c,l.var=(k:Int)∧litV z l=true:=by
 unfold oneB
 rw[List.any_eq_true]
 exact⟨fun⟨l,h1,h2⟩=>⟨l,h1,by simpa using h2⟩,fun⟨l,h1,h2⟩=>⟨l,h1,by simpa using h2⟩⟩
def zKB (s:Sto) (c:Cla):Prop:=∀l∈c,0≤l.var∧l.var<(s.length:Int)
def SubS (t s:Sto):Prop:=t.length=s.length∧∀(k:Nat) r q,t[k]? = some r→s[k]? = some q→∀x∈r,x∈q
theorem SubS.refl (s:Sto):SubS s s:=⟨rfl,fun k r q hr hq x hx=>by rw[hr] at hq;cases hq;exact hx⟩
theorem SubS.trans {a b c:Sto} (h:SubS a b) (k:SubS b c):SubS a c:=by
 refine⟨h.1.trans k.1,fun i r q hr hq x hx=>?_⟩
 have hi:i<b.length:=by rw[←h.1];exact (List.getElem?_eq_some_iff.1 hr).1
 have e:b[i]? = some b[i]:=by simp[hi]
 exact k.2 i _ q e hq x (h.2 i r _ hr e x hx)
theorem zJQ (s:Sto) (p:Nat→Int→Bool):SubS (zA6 s p) s:=by
 refine⟨zAQ _ _,fun k r q hr hq x hx=>?_⟩
 obtain⟨a,ha,rfl⟩:=zAl _ _ _ _ hr
 rw[hq] at ha;cases ha
 exact (List.mem_filter.1 hx).1
theorem zJR (s:Sto) (c:Cla):SubS (zA0 s c) s:=by
 unfold zA0
 split
 ·exact SubS.refl _
 ·split
  ·exact zJQ _ _
  ·split
   ·exact zJQ _ _
   ·exact SubS.refl _
theorem zNT {t s:Sto} (h:SubS t s) (l:MLit):∀x∈zHQ t l,x∈zHQ s l:=by
 intro x hx
 unfold zHQ at *
 rw[List.getD_eq_getElem?_getD] at *
 cases hq:t[l.var.toNat]? with
 | none=>rw[hq] at hx;cases hx
 | some r =>
   rw[hq] at hx
   have hi:l.var.toNat<s.length:=by rw[←h.1];exact (List.getElem?_eq_some_iff.1 hq).1
   have e:s[l.var.toNat]? = some s[l.var.toNat]:=by simp[hi]
   rw[e]
   exact h.2 _ _ _ hq e x hx
theorem zK7 (s t:Sto) (c:Cla) (h:SubS t s) (ht:zAG t=false) (hs:zAG s=false):SubS (zA0 t c) (zA0 s c):=by
 have hlive:∀l∈zC7 t c,l∈zC7 s c:=fun l hl=>by
  rw[zJO] at *
  obtain⟨h1,x,hx,h2⟩:=hl
  exact⟨h1,x,zNT h l x hx,h2⟩
 unfold zA0
 rw[ht,hs,if_neg (by simp),if_neg (by simp)]
 match hqs:zC7 s c with
 | [] =>
   have hqt:zC7 t c=[]:=by
    rcases hq:zC7 t c with _ | ⟨a,r⟩
    ·rfl
    ·have:=hlive a (by rw[hq];exact List.mem_cons_self ..)
     rw[hqs] at this;cases this
   rw[hqt]
   simp only
   refine⟨by rw[zAQ,zAQ];exact h.1,fun k r q hr hq x hx=>?_⟩
   obtain⟨a,ha,rfl⟩:=zAl _ _ _ _ hr
   simp at hx
 | l0 :: rest =>
   simp only
   by_cases hall:rest.all (fun l=>decide (l.var=l0.var))=true
   ·rw[if_pos hall]
    have hv:∀l∈zC7 s c,l.var=l0.var:=fun l hl=>by
     rw[hqs] at hl
     rcases List.mem_cons.1 hl with rfl | h
     ·rfl
     ·simpa using List.all_eq_true.1 hall l h
    match hqt:zC7 t c with
    | [] =>
      simp only
      refine⟨by rw[zAQ,zAQ];exact h.1,fun k r q hr hq x hx=>?_⟩
      obtain⟨a,ha,rfl⟩:=zAl _ _ _ _ hr
      simp at hx
    | a :: r =>
      simp only
      have ha:a.var=l0.var:=hv a (hlive a (by rw[hqt];exact List.mem_cons_self ..))
      have hall2:r.all (fun l=>decide (l.var=a.var))=true:=by
       rw[List.all_eq_true]
       intro l hl
       have:=hv l (hlive l (by rw[hqt];exact List.mem_cons_of_mem _ hl))
       simp[this,ha]
      rw[if_pos hall2,ha]
      refine⟨by rw[zAQ,zAQ];exact h.1,fun k r q hr hq x hx=>?_⟩
      obtain⟨b,hb,rfl⟩:=zAl _ _ _ _ hr
      obtain⟨d,hd,rfl⟩:=zAl _ _ _ _ hq
      obtain⟨h1,h2⟩:=List.mem_filter.1 hx
      exact List.mem_filter.2 ⟨h.2 k b d hb hd x h1,h2⟩
   ·rw[if_neg hall]
    have:=zJR t c
    unfold zA0 at this
    rw[ht,if_neg (by simp)] at this
    exact this.trans h
theorem zHR (s:Sto) (p:Nat→Int→Bool) (h:∀(k:Nat) r z,s[k]? = some r→z∈r→p k z=true):zA6 s p=s:=by
 refine zGh _ _ (zAQ _ _) fun k r q hr hq=>?_
 obtain⟨a,ha,rfl⟩:=zAl _ _ _ _ hr
 rw[hq] at ha;cases ha
 exact List.filter_eq_self.2 fun z hz=>h k _ z hq hz
theorem zD0 (s:Sto) (c:Cla) (l:MLit):l∈zC7 s c↔l∈c∧zBE s l=true:=by
 rw[zJO]
 unfold zBE
 rw[List.any_eq_true]
theorem zHS (s:Sto) (c:Cla) (hf:zAG s=false) (h:c.any (zBE s)=false):zA0 s c=zA6 s fun _ _=>false:=by
 have hn:zC7 s c=[]:=by
  rcases hq:zC7 s c with _ | ⟨a,r⟩
  ·rfl
  ·obtain⟨h1,h2⟩:=(zD0 s c a).1 (by rw[hq];exact List.mem_cons_self ..)
   have:c.any (zBE s)=true:=List.any_eq_true.2 ⟨a,h1,h2⟩
   rw[h] at this;cases this
 unfold zA0
 rw[hf,if_neg (by simp),hn]
theorem zF6 (s:Sto) (c:Cla) (hf:zAG s=false) (t:MLit) (ht:t∈c) (hl:zBE s t=true) :
 zA0 s c=if c.any (fun l=>!decide (l.var=t.var)&&zBE s l) then s else zA6 s (fun k z=>decide ((k:Int)≠t.var) || oneB c k z):=by
 have hm:t∈zC7 s c:=(zD0 s c t).2 ⟨ht,hl⟩
 unfold zA0
 rw[hf,if_neg (by simp)]
 match hq:zC7 s c with
 | []=>rw[hq] at hm;cases hm
 | l0 :: rest =>
   simp only
   by_cases hall:rest.all (fun l=>decide (l.var=l0.var))=true
   ·have hv:∀l∈zC7 s c,l.var=l0.var:=fun l hl=>by
     rw[hq] at hl
     rcases List.mem_cons.1 hl with rfl | h
     ·rfl
     ·simpa using List.all_eq_true.1 hall l h
    have hno:c.any (fun l=>!decide (l.var=t.var)&&zBE s l)=false:=by
     rw[List.any_eq_false]
     intro l hlc hx
     simp only[Bool.and_eq_true,Bool.not_eq_true',decide_eq_false_iff_not] at hx
     exact hx.1 ((hv l ((zD0 s c l).2 ⟨hlc,hx.2⟩)).trans (hv t hm).symm)
    rw[if_pos hall,hno,hv t hm]
    rfl
   ·rw[if_neg hall]
    have hyes:c.any (fun l=>!decide (l.var=t.var)&&zBE s l)=true:=by
     have h1:∃l∈rest,l.var≠l0.var:=by
      apply Classical.byContradiction
      intro hn
      apply hall
      rw[List.all_eq_true]
      intro l hl
      by_cases e:l.var=l0.var
      ·simp[e]
      ·exact absurd ⟨l,hl,e⟩ hn
     obtain⟨l,hl1,hne⟩:=h1
     have hlm:l∈zC7 s c:=by rw[hq];exact List.mem_cons_of_mem _ hl1
     have h0m:l0∈zC7 s c:=by rw[hq];exact List.mem_cons_self ..
     rw[List.any_eq_true]
     by_cases e:l.var=t.var
     ·have:l0.var≠t.var:=fun e2=>hne (e.trans e2.symm)
      obtain⟨a1,a2⟩:=(zD0 s c l0).1 h0m
      exact⟨l0,a1,by simp[this,a2]⟩
     ·obtain⟨a1,a2⟩:=(zD0 s c l).1 hlm
      exact⟨l,a1,by simp[e,a2]⟩
    rw[hyes]
    rfl
theorem zHT (s:Sto) (c:Cla) (hf:zAG s=false) (t:MLit) (ht:t∈c) (hl:zBE s t=true) (h:c.any (fun l=>!decide (l.var=t.var)&&zBE s l)=true):zA0 s c=s:=by
 rw[zF6 s c hf t ht hl,h,if_pos rfl]
theorem zGi (s:Sto) (c:Cla) (hf:zAG s=false) (t:MLit) (ht:t∈c) (hl:zBE s t=true) (h:c.any (fun l=>!decide (l.var=t.var)&&zBE s l)=false) :
 zA0 s c=zA6 s (fun k z=>decide ((k:Int)≠t.var) || oneB c k z):=by
 rw[zF6 s c hf t ht hl,h,if_neg (by simp)]
set_option maxHeartbeats 400000 in
set_option maxRecDepth 100000 in
theorem zNU (l:MLit) (x z:Int) (b1 b2:Nat) (w:World) (h1:w.cell? ⟨b1,0,none⟩=some (.int .i64 x)) (h2:w.cell? ⟨b2,0,none⟩=some (.int .i64 z)) :
 Calls Tryz.prog 230 #[.agg #[.int .i64 l.var,.int .i64 l.op,.int .i64 l.n],.pointer (some ⟨b1,0,none⟩),.pointer (some ⟨b2,0,none⟩)] w fun e w'=>e=.returned (.bool (decide (l.var=x)&&litV z l))∧Below w.heap.size w w':=by
 have l1:b1<w.heap.size:=World.block_lt_of_cell? w _ h1
 have l2:b2<w.heap.size:=World.block_lt_of_cell? w _ h2
 by_cases hq:l.var=x
 ·have g0:(l.var==x)=true:=by simpa using hq
  have HN:Hid ((decide (l.var=x)&&litV z l)=litV z l):=by show _=_;rw[decide_eq_true hq];rfl
  rw[HN.out]
  clear hq
  go_enter Tryz.func230,Tryz.ntmps230
  go_wp2_with fail
  refine (zGg l z _).mono ?_
  rintro e w1 ⟨rfl,hb1⟩
  have hb2:Below w.heap.size w w1:=(zAA _ _).trans (hb1.mono (by simp))
  clear hb1
  go_wp2
  go_ret
  exact⟨rfl,hb2⟩
 ·have g0:(l.var==x)=false:=by simpa using hq
  have HN:Hid ((decide (l.var=x)&&litV z l)=false):=by show _=_;rw[decide_eq_false hq];rfl
  rw[HN.out]
  clear hq
  go_enter Tryz.func230,Tryz.ntmps230
  go_wp2
  go_ret
  exact⟨rfl,zAA _ _⟩
theorem zKC (args:Array Value) (w':World):Sem.run Tryz.prog (callFunc 230 args) w'=.ok (.enter 230 args) w':=by
 simp[callFunc,go_sem,Tryz.func230,Tryz.f230]
set_option maxHeartbeats 400000 in
set_option maxRecDepth 100000 in
theorem zNy (c:Cla) (k:Nat) (z:Int) (u:Value) (w:World) (hu:LArg w u c) :
 Calls Tryz.prog 145 #[u,.int .i64 k,.int .i64 z] w fun e w'=>e=.returned (.bool (oneB c k z))∧Below w.heap.size w w':=by
 have HUA:Hid (∀w':World,Below w.heap.size w w'→LArg w' u c):=fun w' h=>LArg.below h hu
 obtain⟨a1,c1,rfl,_,_⟩:=hu
 go_enter Tryz.func145,Tryz.ntmps145
 go_wp2_with fail
 refine (zDY 230 _ (fun l=>decide (l.var=(k:Int))&&litV z l) c _ _ (HUA.out _ ((zAA _ _).alloc (by simp) _)) ⟨zKC,?_⟩).mono ?_
 ·intro l w' hl hb'
  refine zNU l k z w.heap.size (w.heap.size+1) w' ?_ ?_
  ·exact (hb'.cell (by simp;omega)).trans ((World.cell?_alloc_past _ _ _ (by simp)).trans (World.cell?_alloc_at _ _ _ 0 (by simp)))
  ·exact (hb'.cell (by simp)).trans (World.cell?_alloc_at _ _ _ 0 (by simp))
 rintro e w3 ⟨rfl,hb3⟩
 have hb4:Below w.heap.size w w3:=((zAA _ _).alloc (by simp) _).trans (hb3.mono (by simp;omega))
 clear hb3
 go_wp2
 go_ret
 exact⟨rfl,hb4⟩
def zBK (s:Sto):Sto:=s.map fun _=>[]
def nrmS (s:Sto):Sto:=if zAG s then zBK s else s
theorem zFD (s:Sto):(zBK s).length=s.length:=by simp[zBK]
theorem zHU (s:Sto) (k:Nat) (r:List Int) (h:(zBK s)[k]? = some r):r=[]:=by
 unfold zBK at h
 rw[List.getElem?_map] at h
 obtain⟨_,_,rfl⟩:=Option.map_eq_some_iff.1 h
 rfl
theorem zIc (s:Sto):(nrmS s).length=s.length:=by unfold nrmS;split <;> simp[zBK]
theorem zEx (s:Sto):zAG s=true↔∃k:Nat,s[k]? = some []:=by
 unfold zAG
 rw[List.any_eq_true]
 constructor
 ·rintro ⟨r,hr,h⟩
  obtain⟨k,hk⟩:=List.mem_iff_getElem?.1 hr
  have:r=[]:=List.eq_nil_of_length_eq_zero (by simpa using h)
  exact⟨k,by rw[hk,this]⟩
 ·rintro ⟨k,hk⟩
  exact⟨[],List.mem_of_getElem? hk,rfl⟩
theorem zEg (s:Sto) (h:zAG s=true):zAG (zBK s)=true:=by
 obtain⟨k,hk⟩:=(zEx s).1 h
 refine (zEx _).2 ⟨k,?_⟩
 unfold zBK
 rw[List.getElem?_map,hk];rfl
theorem zKD (s:Sto):zAG (nrmS s)=zAG s:=by
 unfold nrmS
 cases h:zAG s
 ·simp[h]
 ·rw[if_pos rfl];exact zEg s h
theorem zId (s:Sto):zBK (zBK s)=zBK s:=by simp[zBK]
theorem zGj (s:Sto):SubS (nrmS s) s:=by
 unfold nrmS
 split
 ·refine⟨zFD s,fun k r q hr hq x hx=>?_⟩
  rw[zHU s k r hr] at hx;cases hx
 ·exact SubS.refl _
theorem zBp {t s:Sto} (h:SubS t s) (hs:zAG s=true):zAG t=true:=by
 obtain⟨k,hk⟩:=(zEx s).1 hs
 refine (zEx t).2 ⟨k,?_⟩
 have hi:k<t.length:=by rw[h.1];exact (List.getElem?_eq_some_iff.1 hk).1
 have e:t[k]? = some t[k]:=by simp[hi]
 have:t[k]=[]:=by
  rcases hq:t[k] with _ | ⟨a,r⟩
  ·rfl
  ·have:=h.2 k _ _ e hk a (by rw[hq];exact List.mem_cons_self ..)
   cases this
 rw[e,this]
theorem zD1 {t s:Sto} (hl:t.length=s.length):SubS (zBK t) s:=by
 refine⟨by rw[zFD,hl],fun k r q hr hq x hx=>?_⟩
 rw[zHU t k r hr] at hx;cases hx
theorem zMK {t s:Sto} (h:SubS t s):SubS (nrmS t) (nrmS s):=by
 cases ht:zAG t
 ·have hs:zAG s=false:=by
   cases hs:zAG s
   ·rfl
   ·rw[zBp h hs] at ht;cases ht
  unfold nrmS
  rw[ht,hs]
  exact h
 ·have:nrmS t=zBK t:=by unfold nrmS;rw[ht,if_pos rfl]
  rw[this]
  exact zD1 (by rw[zIc];exact h.1)
def zBZ (t s:Sto):Prop:=t.length=s.length∧∀(k:Nat) r q,t[k]? = some r→s[k]? = some q→r.Sublist q
theorem zBZ.refl (s:Sto):zBZ s s:=⟨rfl,fun k r q hr hq=>by rw[hr] at hq;cases hq;exact List.Sublist.refl _⟩
theorem zBZ.trans {a b c:Sto} (h:zBZ a b) (k:zBZ b c):zBZ a c:=by
 refine⟨h.1.trans k.1,fun i r q hr hq=>?_⟩
 have hi:i<b.length:=by rw[←h.1];exact (List.getElem?_eq_some_iff.1 hr).1
 have e:b[i]? = some b[i]:=by simp[hi]
 exact (h.2 i r _ hr e).trans (k.2 i _ q e hq)
theorem zJS (s:Sto) (p:Nat→Int→Bool):zBZ (zA6 s p) s:=by
 refine⟨zAQ _ _,fun k r q hr hq=>?_⟩
 obtain⟨a,ha,rfl⟩:=zAl _ _ _ _ hr
 rw[hq] at ha;cases ha
 exact List.filter_sublist
theorem zGk (s:Sto) (c:Cla):zBZ (zA0 s c) s:=by
 unfold zA0
 split
 ·exact zBZ.refl _
 ·split
  ·exact zJS _ _
  ·split
   ·exact zJS _ _
   ·exact zBZ.refl _
def zBz (s:Sto):Nat:=(s.map List.length).sum
theorem zJT:∀(t s:Sto),zBZ t s→zBz t≤zBz s∧(zBz t=zBz s→t=s)
 | [],[],_=>⟨Nat.le_refl _,fun _=>rfl⟩
 | [],b :: s,h=>by have:=h.1;simp at this
 | a :: t,[],h=>by have:=h.1;simp at this
 | a :: t,b :: s,h=>by
   have h0:=h.2 0 a b rfl rfl
   have ih:=zJT t s ⟨by simpa using h.1,fun k r q hr hq=>h.2 (k+1) r q (by simpa using hr) (by simpa using hq)⟩
   have hl:=h0.length_le
   have e1:zBz (a :: t)=a.length+zBz t:=by simp[zBz]
   have e2:zBz (b :: s)=b.length+zBz s:=by simp[zBz]
   refine⟨by omega,fun he=>?_⟩
   have ha:a=b:=h0.eq_of_length (by omega)
   have ht:t=s:=ih.2 (by omega)
   rw[ha,ht]
structure StepOk (f:Sto→Sto):Prop where
 dec:∀s,SubS (f s) s
 row:∀s,zBZ (f s) s
 mono:∀s t,SubS t s→zAG t=false→zAG s=false→SubS (f t) (f s)
 stay:∀s,zAG s=true→f s=s
theorem zML {f:Sto→Sto} (hf:StepOk f) {t s:Sto} (h:SubS t s):SubS (nrmS (f t)) (nrmS (f s)):=by
 cases ht:zAG t
 ·cases hs:zAG s
  ·exact zMK (hf.mono s t h ht hs)
  ·rw[zBp h hs] at ht;cases ht
 ·rw[hf.stay t ht]
  have:nrmS t=zBK t:=by unfold nrmS;rw[ht,if_pos rfl]
  rw[this]
  exact zD1 (by rw[zIc,(hf.dec s).1];exact h.1)
def zGl (fs:List (Sto→Sto)) (s u:Sto):Prop:=SubS u (nrmS s)∧nrmS u=u∧∀f∈fs,SubS u (nrmS (f u))
def zFu (fs:List (Sto→Sto)) (s t:Sto):Prop:=SubS t s∧∀u,zGl fs s u→SubS u t
def zD2 (fs:List (Sto→Sto)) (s t:Sto):Prop:=zGl fs s t∧∀u,zGl fs s u→SubS u t
theorem zIe (fs:List (Sto→Sto)) (s:Sto):zFu fs s s:=⟨SubS.refl _,fun _ hu=>hu.1.trans (zGj s)⟩
theorem zK8 {fs:List (Sto→Sto)} {s t:Sto} (h:zFu fs s t) (f:Sto→Sto) (hf:f∈fs) (hok:StepOk f):zFu fs s (f t) :=
 ⟨(hok.dec t).trans h.1,fun u hu=>((hu.2.2 f hf).trans (zML hok (h.2 u hu))).trans (zGj _)⟩
theorem zFE {fs:List (Sto→Sto)} {s t:Sto} (h:zFu fs s t) (hf:zAG t=true) (hok:∀f∈fs,StepOk f):zD2 fs s (zBK t):=by
 have hc:=zEg t hf
 have hn:nrmS (zBK t)=zBK t:=by unfold nrmS;rw[hc,if_pos rfl,zId]
 refine⟨⟨zD1 (by rw[zIc];exact h.1.1),hn,fun f hf2=>?_⟩,fun u hu=>?_⟩
 ·rw[(hok f hf2).stay _ hc,hn];exact SubS.refl _
 ·have h1:=h.2 u hu
  have h2:=zBp h1 hf
  have h3:u=zBK u:=by
   have:=hu.2.1
   unfold nrmS at this
   rw[h2,if_pos rfl] at this
   exact this.symm
  rw[h3]
  exact zD1 (by rw[zFD];exact h1.1)
theorem zK9 {fs:List (Sto→Sto)} {s t:Sto} (h:zFu fs s t) (hf:zAG t=false) (hs:∀f∈fs,f t=t):zD2 fs s t:=by
 have hn:nrmS t=t:=by unfold nrmS;rw[hf,if_neg (by simp)]
 have hsf:zAG s=false:=by
  cases hq:zAG s
  ·rfl
  ·rw[zBp h.1 hq] at hf;cases hf
 have hsn:nrmS s=s:=by unfold nrmS;rw[hsf,if_neg (by simp)]
 exact⟨⟨by rw[hsn];exact h.1,hn,fun f hf2=>by rw[hs f hf2,hn];exact SubS.refl _⟩,h.2⟩
theorem zHV (c:Cla):StepOk fun s=>zA0 s c where
 dec s:=zJR s c
 row s:=zGk s c
 mono s t h ht hs:=zK7 s t c h ht hs
 stay s h:=by unfold zA0;rw[h,if_pos rfl]
end Go.Proofs.YtndcpnlaadikoaaGreatDoor
