/- What the proof leans on, part 3. -/
import Derived.Test.YtndcpnlaadikoaaGreatDoorPartAb
import Derived.Defers
import Derived.Recover
set_option maxRecDepth 100000
set_option maxHeartbeats 800000
namespace Go.Proofs.YtndcpnlaadikoaaGreatDoor
def zJ4 (t:Tok):Prop:=t.text.size≤4000∧(t.kind=2→(1≤t.text.size∧t.text.size≤4)∧∀c∈t.text.data.toList,48≤c.toNat∧c.toNat≤57)
inductive PR (α:Type) where
 | ok (a:α) (rest:List Tok)
 | bad (place e:Int)
def PR.bind {α β:Type} (p:PR α) (f:α→List Tok→PR β):PR β :=
 match p with
 | .ok a r=>f a r
 | .bad x e=>.bad x e
def zAN (en:Int):List Tok→Tok
 | []=>⟨0,en,ByteArray.empty⟩
 | t :: _=>t
def zBu (en:Int) (fits:Bool) (l:List Tok):PR Tok:=if fits then .ok (zAN en l) l.tail else .bad (zAN en l).place 1
def zAY (en:Int) (s:ByteArray) (l:List Tok):PR Tok:=zBu en ((zAN en l).text.toList==s.toList) l
def zGw (s:ByteArray):Bool:=zAG ⟨[⟨s,0,0⟩],[],0,0⟩==0
def zC5 (en:Int) (l:List Tok):PR ByteArray:=(zBu en (zGw (zAN en l).text) l).bind fun t r=>.ok t.text r
def idxA:List ByteArray→ByteArray→Nat→Int
 | [],_,_=>-1
 | x :: r,n,k=>if n.toList==x.toList then (k:Int) else idxA r n (k+1)
def zC0 (en:Int) (texts:List ByteArray) (l:List Tok):PR Int :=
 (zBu en (decide (0≤idxA texts (zAN en l).text 0)&&((zAN en l).kind != 0)) l).bind fun _ r=>.ok (idxA texts (zAN en l).text 0) r
def digV (l:List UInt8):Int:=l.foldl (fun n c=>n * 10+((c.toNat:Int) - 48)) 0
def zAP (en:Int) (l:List Tok):PR Int :=
 if (zAN en l).text.toList==[45] then
  (zAY en ⟨#[45]⟩ l).bind fun _ l=>(zBu en (((zAN en l).kind==2)&&(!((zAN en l).text.toList==[48]))) l).bind fun t r=>.ok (-1 * digV t.text.data.toList) r
 else (zBu en ((zAN en l).kind==2) l).bind fun t r=>.ok (1 * digV t.text.data.toList) r
def zCX:List ByteArray→ByteArray→Int×Bool
 | [],_=>(0,false)
 | n :: r,s=>if (zCX r s).2 then ((zCX r s).1+1,true) else if n.data.toList=s.data.toList then (0,true) else (0,false)
def zA1 (en:Int) (names:List ByteArray) (l:List Tok):PR Int :=
 if (zCX names (zAN en l).text).2 then (zBu en true l).bind fun _ r=>.ok (zCX names (zAN en l).text).1 r
 else if zGw (zAN en l).text then .bad (zAN en l).place 5 else .bad (zAN en l).place 1
theorem zHI (s n:ByteArray):∀l:List ByteArray,zCX (l++[n]) s=if n.data.toList=s.data.toList then ((l.length:Int),true) else zCX l s
 | []=>by
   simp[zCX]
 | m :: l=>by
   have ih:=zHI s n l;simp only[List.cons_append,zCX,ih];by_cases h:n.data.toList=s.data.toList
   ·rw[if_pos h,if_pos h]
    simp
   ·rw[if_neg h,if_neg h]
theorem zGb:∀l:List ByteArray,(∀n∈l,n.data.toList≠[])→zCX l ByteArray.empty=(0,false)
 | [],_=>rfl
 | n :: l,h=>by
   have ih:=zGb l fun m hm=>h m (List.mem_cons_of_mem _ hm)
   simp only[zCX,ih];rw[if_neg (by simp),if_neg (show ¬n.data.toList=ByteArray.empty.data.toList from h n (List.mem_cons_self ..))]
def zCK {α:Type} (en:Int) (item:List Tok→PR α):Nat→List α→List Tok→PR (List α)
 | 0,_,_=>.bad 0 0
 | f+1,acc,l =>
   if (zAN en l).text.toList==[44] then (zAY en ⟨#[44]⟩ l).bind fun _ l=>(item l).bind fun x l=>zCK en item f (acc++[x]) l
   else (zAY en ⟨#[93]⟩ l).bind fun _ l=>.ok acc l
def zAr {α:Type} (en:Int) (item:List Tok→PR α) (l:List Tok):PR (List α) :=
 (zAY en ⟨#[91]⟩ l).bind fun _ l =>
   if (zAN en l).text.toList==[93] then (zAY en ⟨#[93]⟩ l).bind fun _ l=>.ok [] l
   else (item l).bind fun x l=>zCK en item (l.length+1) [x] l
def Eats {α:Type} (item:List Tok→PR α):Prop:=∀l x r,item l=.ok x r→r.length≤l.length
theorem PR.bind_ok {α β:Type} {p:PR α} {f:α→List Tok→PR β} {b:β} {r:List Tok} (h:p.bind f=.ok b r):∃a q,p=.ok a q∧f a q=.ok b r:=by
 cases p with
 | ok a q=>exact⟨a,q,rfl,h⟩
 | bad x e=>cases h
theorem zDH (en:Int) (l:List Tok) (fits:Bool) (t:Tok) (r:List Tok) (h:zBu en fits l=.ok t r):r=l.tail:=by
 unfold zBu at h
 split at h
 ·cases h;rfl
 ·cases h
theorem zOh {α:Type} (en:Int) (g:List Tok→Bool) (f:Tok→List Tok→α):Eats fun l=>(zBu en (g l) l).bind fun t r=>.ok (f t r) r:=by
 intro l x r h;obtain⟨t,q,h1,h2⟩:=PR.bind_ok h;have:=zDH en l _ t q h1;cases h2
 rw[this];simp
theorem zER (en:Int) (names:List ByteArray):Eats (zA1 en names):=by
 intro l x r h;unfold zA1 at h
 split at h
 ·obtain⟨t,q,h1,h2⟩:=PR.bind_ok h
  have:=zDH en l _ t q h1;cases h2
  rw[this];simp
 ·split at h <;> cases h
theorem zES (en:Int) (s:ByteArray):Eats (zAY en s):=by
 intro l x r h;rw[zDH en l _ x r h];simp
theorem zB5 (en:Int):Eats (zAP en):=by
 intro l x r h;unfold zAP at h
 split at h
 ·obtain⟨t,q,h1,h2⟩:=PR.bind_ok h
  obtain⟨t2,q2,h3,h4⟩:=PR.bind_ok h2;have e1:=zES en _ l t q h1;have e2:=zDH en q _ t2 q2 h3;cases h4
  rw[e2];simp;omega
 ·obtain⟨t2,q2,h3,h4⟩:=PR.bind_ok h
  have e2:=zDH en l _ t2 q2 h3;cases h4
  rw[e2];simp
theorem zJ5 {α:Type} (en:Int) (item:List Tok→PR α) (hi:Eats item):∀(f:Nat) (acc:List α),Eats (zCK en item f acc)
 | 0,acc=>fun l x r h=>by cases h
 | f+1,acc=>fun l x r h=>by
   unfold zCK at h
   split at h
   ·obtain⟨t,q,h1,h2⟩:=PR.bind_ok h
    obtain⟨t2,q2,h3,h4⟩:=PR.bind_ok h2;have e1:=zES en _ l t q h1;have e2:=hi q t2 q2 h3;have e3:=zJ5 en item hi f _ q2 x r h4;omega
   ·obtain⟨t,q,h1,h2⟩:=PR.bind_ok h
    have e1:=zES en _ l t q h1;cases h2
    exact e1
theorem zET {α:Type} (en:Int) (item:List Tok→PR α) (hi:Eats item):Eats (zAr en item):=by
 intro l x r h;unfold zAr at h;obtain⟨t,q,h1,h2⟩:=PR.bind_ok h;have e1:=zES en _ l t q h1
 split at h2
 ·obtain⟨t2,q2,h3,h4⟩:=PR.bind_ok h2
  have e2:=zES en _ q t2 q2 h3;cases h4
  omega
 ·obtain⟨t2,q2,h3,h4⟩:=PR.bind_ok h2
  have e2:=hi q t2 q2 h3;have e3:=zJ5 en item hi _ _ q2 x r h4;omega
def opWL:List ByteArray:=[⟨#[]⟩,⟨#[60,61]⟩,⟨#[62,61]⟩,⟨#[61,61]⟩,⟨#[33,61]⟩]
def zDX:List ByteArray:=[⟨#[97,110,121]⟩,⟨#[108,101,97,115,116]⟩,⟨#[109,111,115,116]⟩]
def zGx:List ByteArray:=[⟨#[]⟩,⟨#[108,101]⟩,⟨#[101,113]⟩,⟨#[110,101]⟩,⟨#[100,105,102,102,101,114]⟩,⟨#[101,108,101,109,101,110,116]⟩,⟨#[116,97,98,108,101]⟩,⟨#[116,105,109,101,115]⟩,⟨#[109,97,120]⟩,⟨#[99,108,97,117,115,101]⟩,⟨#[105,102,102]⟩]
def litP (en:Int) (names:List ByteArray) (l:List Tok):PR MLit :=
 (zA1 en names l).bind fun v l=>(zC0 en opWL l).bind fun op l=>(zAP en l).bind fun n l=>.ok ⟨v,op,n⟩ l
theorem zIY (en:Int) (texts:List ByteArray):Eats (zC0 en texts):=by
 intro l x r h;unfold zC0 at h;obtain⟨t,q,h1,h2⟩:=PR.bind_ok h;have:=zDH en l _ t q h1;cases h2
 rw[this];simp
theorem zJV (en:Int) (names:List ByteArray):Eats (litP en names):=by
 intro l x r h;unfold litP at h;obtain⟨t,q,h1,h2⟩:=PR.bind_ok h;obtain⟨t2,q2,h3,h4⟩:=PR.bind_ok h2;obtain⟨t3,q3,h5,h6⟩:=PR.bind_ok h4;have e1:=zER en names l t q h1;have e2:=zIY en opWL q t2 q2 h3;have e3:=zB5 en q2 t3 q3 h5;cases h6
 omega
def varW:ByteArray:=⟨#[118,97,114]⟩
def colW:ByteArray:=⟨#[58]⟩
def zEJ:ByteArray:=⟨#[46,46]⟩
def zB6:ByteArray:=⟨#[59]⟩
def conW:ByteArray:=⟨#[99,111,110]⟩
def zBy:ByteArray:=⟨#[115,111,108,118,101]⟩
def zDz (en:Int) (l:List Tok):PR MVar :=
 (zAY en varW l).bind fun _ l=>(zC5 en l).bind fun n l=>(zAY en colW l).bind fun _ l=>(zAP en l).bind fun lo l=>(zAY en zEJ l).bind fun _ l=>(zAP en l).bind fun hi l=>(zAY en zB6 l).bind fun _ l=>.ok ⟨n,lo,hi⟩ l
def zNX (en:Int) (names:List ByteArray) (l:List Tok):PR (Int×Int) :=
 (zAY en zBy l).bind fun _ l=>(zC0 en zDX l).bind fun g l =>
   if g=0 then (zAY en zB6 l).bind fun _ l=>.ok (g,0) l
   else (zA1 en names l).bind fun v l=>(zAY en zB6 l).bind fun _ l=>.ok (g,v) l
def zCp (en:Int) (names:List ByteArray) (k:Int) (l:List Tok):PR MCon :=
 if k=1∨k=2∨k=3 then (zAr en (zAP en) l).bind fun cs l=>(zAr en (zA1 en names) l).bind fun vs l=>(zAP en l).bind fun n l=>.ok ⟨k,vs,cs,n,[],[]⟩ l
 else if k=4 then (zAr en (zA1 en names) l).bind fun vs l=>.ok ⟨k,vs,[],0,[],[]⟩ l
 else if k=5 then (zAr en (zAP en) l).bind fun cs l=>(zA1 en names l).bind fun a l=>(zA1 en names l).bind fun b l=>.ok ⟨k,[a,b],cs,0,[],[]⟩ l
 else if k=6 then (zAr en (zA1 en names) l).bind fun vs l=>(zAr en (zAr en (zAP en)) l).bind fun rs l=>.ok ⟨k,vs,[],0,rs,[]⟩ l
 else if k=7 then (zA1 en names l).bind fun a l=>(zA1 en names l).bind fun b l=>(zA1 en names l).bind fun c l=>.ok ⟨k,[a,b,c],[],0,[],[]⟩ l
 else if k=8 then (zA1 en names l).bind fun a l=>(zAr en (zA1 en names) l).bind fun vs l=>.ok ⟨k,[a]++vs,[],0,[],[]⟩ l
 else if k=9 then (zAr en (litP en names) l).bind fun ls l=>.ok ⟨k,[],[],0,[],ls⟩ l
 else if k=10 then (zA1 en names l).bind fun a l=>(litP en names l).bind fun t l=>.ok ⟨k,[a],[],0,[],[t]⟩ l
 else .ok ⟨k,[],[],0,[],[]⟩ l
def conP (en:Int) (names:List ByteArray) (l:List Tok):PR MCon :=
 (zAY en conW l).bind fun _ l=>(zC0 en zGx l).bind fun k l=>(zCp en names k l).bind fun c l=>(zAY en zB6 l).bind fun _ l=>.ok c l
def zJ6 (en:Int):Nat→List MVar→List Tok→PR (List MVar)
 | 0,_,_=>.bad 0 0
 | f+1,acc,l=>if (zAN en l).text.toList==[118,97,114] then (zDz en l).bind fun v l=>zJ6 en f (acc++[v]) l else .ok acc l
def zJW (en:Int) (names:List ByteArray):Nat→List MCon→List Tok→PR (List MCon)
 | 0,_,_=>.bad 0 0
 | f+1,acc,l=>if (zAN en l).text.toList==[99,111,110] then (conP en names l).bind fun c l=>zJW en names f (acc++[c]) l else .ok acc l
def zMh (en:Int) (l:List Tok):PR Mod :=
 (zJ6 en (l.length+1) [] l).bind fun vs l=>(zJW en (vs.map MVar.name) (l.length+1) [] l).bind fun cs l=>(zNX en (vs.map MVar.name) l).bind fun g l =>
   if 0<l.length then .bad (zAN en l).place 1 else .ok ⟨vs,cs,g.1,g.2⟩ l
open Go.RowKit
def TArg (N:Nat) (w:World) (v:Value) (l:List Tok):Prop :=
 ∃a c,v=.slice a l.length c∧(l.length≤c∧c≤maxLen)∧(l.length≤4000∧∀t∈l,zJ4 t)∧∀(i:Nat) (t:Tok),l[i]? = some t→∃b off,a=some ⟨b,off,none⟩∧b<N∧w.cell? ⟨b,off+i * 3,none⟩=some (.int .i64 t.kind)∧w.cell? ⟨b,off+i * 3+1,none⟩=some (.int .i64 t.place)∧w.cell? ⟨b,off+i * 3+2,none⟩=some (.string t.text)
def Rd (N R M:Nat) (en:Int) (w:World) (l:List Tok):Prop :=
 (N≤R∧N≤w.heap.size∧M≠R)∧∃v,w.heap[R]? = some (.cells #[v,.int .i64 en,.map (some M)] 209)∧TArg N w v l
theorem TArg.old {N:Nat} {w w':World} {v:Value} {l:List Tok} (h:TArg N w v l) (hc:∀p:Addr,p.block<N→w'.cell? p=w.cell? p):TArg N w' v l:=by
 obtain⟨a,c,hv,hm,ht,hr⟩:=h;refine⟨a,c,hv,hm,ht,fun i t hi=>?_⟩
 obtain⟨b,off,ha,hlt,c0,c1,c2⟩:=hr i t hi;exact⟨b,off,ha,hlt,(hc ⟨b,off+i * 3,none⟩ hlt).trans c0,(hc ⟨b,off+i * 3+1,none⟩ hlt).trans c1,(hc ⟨b,off+i * 3+2,none⟩ hlt).trans c2⟩
theorem Rd.len {N R M:Nat} {en:Int} {w:World} {l:List Tok} (h:Rd N R M en w l):l.length≤4000:=by
 obtain⟨_,v,_,_,_,_,_,ht,_⟩:=h;exact ht.1
theorem Rd.set {N R M:Nat} {en:Int} {w:World} {l:List Tok} (h:Rd N R M en w l) {p:Addr} (hp:p.block≠R) (hN:N≤p.block) (u:Value):Rd N R M en (w.setCell p u) l:=by
 obtain⟨⟨h1,h2,h3⟩,v,hR,ht⟩:=h;exact⟨⟨h1,by simpa using h2,h3⟩,v,(Below.heap_setCell _ _ _ _ (Ne.symm hp)).trans hR,ht.old fun q hq=>World.cell?_of_block (Below.heap_setCell _ _ _ _ (by omega))⟩
theorem Rd.put {N R M:Nat} {en:Int} {w:World} {l r:List Tok} {v:Value} (h:Rd N R M en w l) (hv:TArg N w v r):Rd N R M en (w.setCell ⟨R,0,none⟩ v) r:=by
 obtain⟨⟨h1,h2,h3⟩,v0,hR,_⟩:=h;refine⟨⟨h1,by simpa using h2,h3⟩,v,?_,hv.old fun q hq=>World.cell?_of_block (Below.heap_setCell _ _ _ _ (by simp only;omega))⟩
 rw[heap_setCell_same w R 0 _ _ v hR];rfl
def tokA (t:Tok):Value:=.agg #[.int .i64 t.kind,.int .i64 t.place,.string t.text]
theorem zAS (N R M:Nat) (en:Int) (w:World) (l:List Tok) (h:Rd N R M en w l) :
 Calls Tryz.prog 220 #[.pointer (some ⟨R,0,none⟩)] w fun e w'=>e=.returned (tokA (zAN en l))∧Below w.heap.size w w':=by
 obtain⟨⟨_,hNw,_⟩,v,hR,a,c,rfl,hm,_,hr⟩:=h;have c0:w.cell? ⟨R,0,none⟩=some (.slice a l.length c):=by rw[Lib.cell_of_heap hR];rfl
 have c1:w.cell? ⟨R,1,none⟩=some (.int .i64 en):=by rw[Lib.cell_of_heap hR];rfl
 have hRl:R<w.heap.size:=(Array.getElem?_eq_some_iff.1 hR).1;unfold maxLen at hm;obtain⟨hm1,hm⟩:=hm;cases l with
 | nil =>
   clear hr hR;go_enter Tryz.func220,Tryz.ntmps220
   go_wp2
   refine bodyPost_ret (by simp[results,Tryz.results220,go_sem, *];try rfl) rfl ⟨rfl,?_⟩
   exact zAA _ _
 | cons t r =>
   obtain⟨b,off,rfl,hb,g0,g1,g2⟩:=hr 0 t rfl;simp only[Nat.zero_mul,Nat.add_zero] at g0 g1 g2;have hbw:b<w.heap.size:=by omega
   have hlen:((t :: r).length:Int)=(r.length:Int)+1:=by simp
   clear hr hR;go_enter Tryz.func220,Tryz.ntmps220
   go_wp2
   refine bodyPost_ret (by simp[results,Tryz.results220,go_sem, *];try rfl) rfl ⟨rfl,?_⟩
   exact zAA _ _
theorem zSG (t:Tok) (w:World):Sem.run Tryz.prog (Instr.field 161 (.agg #[.int .i64 t.kind,.int .i64 t.place,.string t.text]) 0) w=.ok (.int .i64 t.kind) w:=by kernel_rfl
theorem zTR (t:Tok) (w:World):Sem.run Tryz.prog (Instr.field 161 (.agg #[.int .i64 t.kind,.int .i64 t.place,.string t.text]) 1) w=.ok (.int .i64 t.place) w:=by kernel_rfl
theorem zFD (t:Tok) (w:World):Sem.run Tryz.prog (Instr.field 161 (.agg #[.int .i64 t.kind,.int .i64 t.place,.string t.text]) 2) w=.ok (.string t.text) w:=by kernel_rfl
theorem zGA (N R M:Nat) (en er:Int) (w:World) (l:List Tok) (h:Rd N R M en w l) :
 Calls Tryz.prog 224 #[.pointer (some ⟨R,0,none⟩),.int .i64 er] w fun e w'=>e=.panicked [{ v:=.iface 204 (.agg #[.int .i64 (zAN en l).place,.int .i64 er]),recovered:=false }]∧Below w.heap.size w w':=by
 have hf1:=zTR (zAN en l);go_enter Tryz.func224,Tryz.ntmps224
 go_wp2_with fail
 refine (zAS N R M en _ l h).mono ?_;rintro e w1 ⟨rfl,hb1⟩;unfold tokA;go_wp2
 exact⟨rfl,rfl,hb1⟩
def zB7 {α:Type} (p:PR α) (G:α→Value→World→Prop) (N R M:Nat) (en:Int) (X:Nat→Prop) (w:World) (e:Ending) (w':World):Prop :=
 match p with
 | .ok a r=>∃v,e=.returned v∧G a v w'∧Rd N R M en w' r∧Fr X w w'
 | .bad x er=>e=.panicked [{ v:=.iface 204 (.agg #[.int .i64 x,.int .i64 er]),recovered:=false }]∧Fr X w w'
theorem Rd.below {N R M:Nat} {en:Int} {w w':World} {l:List Tok} (h:Rd N R M en w l) (hb:Below w.heap.size w w'):Rd N R M en w' l:=by
 obtain⟨⟨h1,h2,h3⟩,v,hR,a,c,hv,hm,ht,hr⟩:=h;have hRl:R<w.heap.size:=(Array.getElem?_eq_some_iff.1 hR).1;refine⟨⟨h1,Nat.le_trans h2 hb.size,h3⟩,v,(hb.block R hRl).trans hR,a,c,hv,hm,ht,fun i t hi=>?_⟩
 obtain⟨b,off,ha,hlt,c0,c1,c2⟩:=hr i t hi;have hbw:b<w.heap.size:=by omega
 exact⟨b,off,ha,hlt,(hb.cell (p:=⟨b,off+i * 3,none⟩) hbw).trans c0,(hb.cell (p:=⟨b,off+i * 3+1,none⟩) hbw).trans c1,(hb.cell (p:=⟨b,off+i * 3+2,none⟩) hbw).trans c2⟩
theorem zOi {N R M B:Nat} {en:Int} {w1:World} {l r:List Tok} {v x y z:Value} {o:Obj} (h:Rd N R M en w1 l) (hv:TArg N w1 v r) (hne:B≠R) (hN:N≤B) :
 Rd N R M en (((((w1.setCell ⟨R,0,none⟩ v).setCell ⟨B,0,none⟩ x).setCell ⟨B,1,none⟩ y).setCell ⟨B,2,none⟩ z).alloc o) r :=
 ((((h.put hv).set (p:=⟨B,0,none⟩) hne hN _).set (p:=⟨B,1,none⟩) hne hN _).set (p:=⟨B,2,none⟩) hne hN _).below (zAA _ _)
theorem zOj {R:Nat} {w w1:World} {v x y z:Value} {o:Obj} (h:Below w.heap.size w w1) :
 Fr (fun k=>k=R) w (((((w1.setCell ⟨R,0,none⟩ v).setCell ⟨w.heap.size,0,none⟩ x).setCell ⟨w.heap.size,1,none⟩ y).setCell ⟨w.heap.size,2,none⟩ z).alloc o) :=
 (((((Fr.below (X:=fun k=>k=R) h).setX (p:=⟨R,0,none⟩) rfl _).setNew (p:=⟨w.heap.size,0,none⟩) (Nat.le_refl _) _).setNew (p:=⟨w.heap.size,1,none⟩) (Nat.le_refl _) _).setNew (p:=⟨w.heap.size,2,none⟩) (Nat.le_refl _) _).alloc _
theorem zCM (N R M:Nat) (en:Int) (fits:Bool) (w:World) (l:List Tok) (h:Rd N R M en w l) (hf:fits=true→l≠[]) :
 Calls Tryz.prog 278 #[.pointer (some ⟨R,0,none⟩),.bool fits] w (zB7 (zBu en fits l) (fun t v _=>v=tokA t) N R M en (fun k=>k=R) w):=by
 cases fits
 ·have HB:Hid (Rd N R M en w l):=h
  go_enter Tryz.func278,Tryz.ntmps278
  go_wp2_with fail
  refine (zGA N R M en 1 _ l (HB.out.below (zAA _ _))).mono ?_;rintro e w1 ⟨rfl,hb1⟩;go_wp2
  exact⟨rfl,rfl,Fr.below ((zAA _ _).trans (hb1.mono (by simp)))⟩
 ·have HB:Hid (Rd N R M en w l):=h
  obtain⟨t,r,rfl⟩:∃t r,l=t :: r:=by
   cases l with
   | nil=>exact absurd rfl (hf rfl)
   | cons t r=>exact⟨t,r,rfl⟩
  go_enter Tryz.func278,Tryz.ntmps278
  go_wp2_with fail
  refine (zAS N R M en _ (t :: r) (HB.out.below (zAA _ _))).mono ?_;rintro e w1 ⟨rfl,hb1⟩;have HR1:Hid (Rd N R M en w1 (t :: r)):=(HB.out.below (zAA _ _)).below hb1;obtain⟨⟨_,hNw,_⟩,v,hR,a,c,rfl,hm,ht,hr⟩:=HR1.out;have c0:w1.cell? ⟨R,0,none⟩=some (.slice a (t :: r).length c):=by rw[Lib.cell_of_heap hR];rfl
  have hRl:R<w1.heap.size:=(Array.getElem?_eq_some_iff.1 hR).1;have z0:w1.frozen? ⟨R,0,none⟩=false:=by unfold World.frozen?;simp only[hR];simp
  obtain⟨b,off,rfl,hb,_,_,_⟩:=hr 0 t rfl;unfold maxLen at hm;obtain⟨hm1,hm⟩:=hm;have HB1:Hid (Below w.heap.size w w1):=(zAA _ _).trans (hb1.mono (by simp))
  have HW:w1.heap[w.heap.size]? = some (.cells #[.int .i64 0,.int .i64 0,.string ⟨#[]⟩] 161):=(hb1.block _ (by simp)).trans (by show (w.heap.push _)[w.heap.size]? = _;simp)
  have d0:w1.cell? ⟨w.heap.size,0,none⟩=some (.int .i64 0):=by rw[Lib.cell_of_heap HW];rfl
  have d1:w1.cell? ⟨w.heap.size,1,none⟩=some (.int .i64 0):=by rw[Lib.cell_of_heap HW];rfl
  have d2:w1.cell? ⟨w.heap.size,2,none⟩=some (.string ⟨#[]⟩):=by rw[Lib.cell_of_heap HW];rfl
  have y0:w1.frozen? ⟨w.heap.size,0,none⟩=false:=by unfold World.frozen?;simp only[HW];simp
  have y1:w1.frozen? ⟨w.heap.size,1,none⟩=false:=by unfold World.frozen?;simp only[HW];simp
  have y2:w1.frozen? ⟨w.heap.size,2,none⟩=false:=by unfold World.frozen?;simp only[HW];simp
  have hsw:w.heap.size<w1.heap.size:=(Array.getElem?_eq_some_iff.1 HW).1;have hN0:N≤w.heap.size:=HB.out.1.2.1;have hne:w.heap.size≠R:=by obtain⟨_,_,hR0,_⟩:=HB.out;have:=(Array.getElem?_eq_some_iff.1 hR0).1;omega
  unfold tokA;simp only[zAN];clear hr hR ht hb1 hf h HW;go_wp2
  ·have hr0:r=[]:=by
    rcases r with _ | ⟨x,r⟩
    ·rfl
    ·simp at hm1;omega
   have HT:TArg N w1 (.slice (some ⟨b,off,none⟩) r.length 0) r:=by
    subst hr0;exact⟨_,_,rfl,⟨Nat.le_refl _,Nat.zero_le _⟩,⟨by simp,fun t ht=>by (cases ht)⟩,fun i t hi=>by (simp at hi)⟩
   refine bodyPost_ret (by simp[results,Tryz.results278,go_sem, *];try rfl) rfl ?_
   exact⟨_,rfl,rfl,zOi HR1.out HT hne hN0,zOj HB1.out⟩
  ·have HT:TArg N w1 (.slice (some ⟨b,off+3,none⟩) r.length (c - 1)) r:=by
    obtain⟨_,v2,hR2,a2,c2,hv2,hm2,ht2,hr2⟩:=HR1.out;have hv3:v2=.slice (some ⟨b,off,none⟩) (t :: r).length c:=by
     have h1:=c0;rw[Lib.cell_of_heap hR2] at h1;exact Option.some.inj h1
    rw[hv2] at hv3;simp only[Value.slice.injEq] at hv3;obtain⟨rfl,_,rfl⟩:=hv3;refine⟨_,_,rfl,⟨by simp at hm1;omega,by unfold maxLen;omega⟩,⟨by have:=ht2.1;simp at this;omega,fun x hx=>ht2.2 x (List.mem_cons_of_mem _ hx)⟩,fun i x hi=>?_⟩
    obtain⟨b',off',ha,hlt,q0,q1,q2⟩:=hr2 (i+1) x (by simpa using hi)
    simp only[Option.some.injEq,Addr.mk.injEq,and_true] at ha;obtain⟨rfl,rfl⟩:=ha;refine⟨_,_,rfl,hlt,?_,?_,?_⟩
    ·rw[show off+3+i * 3=off+(i+1) * 3 by omega];exact q0
    ·rw[show off+3+i * 3=off+(i+1) * 3 by omega];exact q1
    ·rw[show off+3+i * 3=off+(i+1) * 3 by omega];exact q2
   refine bodyPost_ret (by simp[results,Tryz.results278,go_sem, *];try rfl) rfl ?_
   exact⟨_,rfl,rfl,zOi HR1.out HT hne hN0,zOj HB1.out⟩
end Go.Proofs.YtndcpnlaadikoaaGreatDoor
