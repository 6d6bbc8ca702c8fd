/- What the proof leans on, part 42. -/
import Derived.Test.YtdjbejlbmaiocagGreatDoorPartBk
import Derived.Test.YtdjbejlbmaiocagGreatDoorPartBo
namespace Go.Proofs.YtdjbejlbmaiocagGreatDoor
open Go
structure KT where
 kind:Int
 text:ByteArray
def ktOf (t:Tok):KT:=⟨t.kind,t.text⟩
def NW (l:List UInt8):Prop:=l=[]∨∃c r,l=c :: r∧isW c=false
inductive Spells:List UInt8→List KT→Prop
 | nil:Spells [] []
 | blank {c:UInt8} {l:List UInt8} {ts:List KT} (hc:isB c=true) (h:Spells l ts):Spells (c :: l) ts
 | tok {l:List UInt8} {ts:List KT} (t:KT) (ht:zEj t.kind t.text=true) (hn:t.kind=3∨NW l) (h:Spells l ts):Spells (t.text.data.toList++l) (t :: ts)
theorem zGX (l:List UInt8) (k:Nat):zBt (l.drop k) 0=zBt l k:=by unfold zBt;simp
theorem zHG (p:UInt8→Bool) (l:List UInt8) (k:Nat):zA0 p l k=k+zA0 p (l.drop k) 0:=by unfold zA0;simp
theorem zKO (l:List UInt8) (k:Nat):zBE l k=zBE (l.drop k) 0:=by unfold zBE;rw[zGX,List.drop_zero]
theorem zLe (l:List UInt8) (k:Nat):zBq l k=k+zBq (l.drop k) 0:=by
 unfold zBq
 rw[zGX,List.drop_zero]
 split
 ·exact zHG _ _ _
 ·split
  ·exact zHG _ _ _
  ·omega
theorem zE9 (p:UInt8→Bool) (a b:List UInt8) (ha:(a.takeWhile p).length=a.length) (hb:b=[]∨∃c r,b=c :: r∧p c=false):(a++b).takeWhile p=a:=by
 induction a with
 | nil =>
   rcases hb with rfl | ⟨c,r,rfl,hc⟩
   ·rfl
   ·simp[hc]
 | cons c q ih =>
   rw[List.takeWhile_cons] at ha
   split at ha
   ·rename_i hc
    simp only[List.length_cons,Nat.add_right_cancel_iff] at ha
    rw[List.cons_append,List.takeWhile_cons,if_pos hc,ih ha]
   ·simp at ha
theorem zMw (c:UInt8) (h:zKW c=true):c=91∨c=93∨c=59∨c=58∨c=44∨c=45:=by
 simp only[zKW,Bool.or_eq_true,beq_iff_eq] at h
 have e:∀n:Nat,n<256→(c.toNat:Int)=n→c=UInt8.ofNat n:=by
  intro n hn h
  apply UInt8.toNat_inj.1
  rw[UInt8.toNat_ofNat']
  omega
 rcases h with h | h | h | h | h | h
 ·exact Or.inl (e 91 (by decide) h)
 ·exact Or.inr (Or.inl (e 93 (by decide) h))
 ·exact Or.inr (Or.inr (Or.inl (e 59 (by decide) h)))
 ·exact Or.inr (Or.inr (Or.inr (Or.inl (e 58 (by decide) h))))
 ·exact Or.inr (Or.inr (Or.inr (Or.inr (Or.inl (e 44 (by decide) h)))))
 ·exact Or.inr (Or.inr (Or.inr (Or.inr (Or.inr (e 45 (by decide) h)))))
theorem zLf (c:UInt8) (b:List UInt8) (h:zKW c=true):zFd (c :: b)=false:=by
 cases b with
 | nil=>simp[zFd]
 | cons d r=>rcases zMw c h with rfl | rfl | rfl | rfl | rfl | rfl <;> simp[zFd]
theorem nw_d {b:List UInt8} (h:NW b):b=[]∨∃c r,b=c :: r∧isD c=false:=by
 rcases h with h | ⟨c,r,h,hc⟩
 ·exact Or.inl h
 ·refine Or.inr ⟨c,r,h,?_⟩
  unfold isW at hc
  cases hd:isD c
  ·rfl
  ·rw[hd] at hc;simp at hc
theorem zO6 (a b:List UInt8) (h0:0<a.length) (he:zBq a 0=a.length) (hk:zBE a 0≠0) (hb:zBE a 0=3∨NW b):zBE (a++b) 0=zBE a 0∧zBq (a++b) 0=a.length:=by
 have hby:zBt (a++b) 0=zBt a 0:=by
  cases a with
  | nil=>simp at h0
  | cons c q=>rfl
 unfold zBE zBq at *
 rw[hby]
 rw[List.drop_zero] at *
 cases h1:isL (zBt a 0)
 ·cases h2:isD (zBt a 0)
  ·simp only[h1,h2,Bool.false_eq_true,if_false] at he hk ⊢
   rw[List.drop_zero]
   have hs:zDu a=a.length:=by omega
   have hs2:zDu (a++b)=zDu a:=by
    by_cases hl:a.length=1
    ·obtain⟨c,rfl⟩:=List.length_eq_one_iff.1 hl
     have hc:zKW c=true:=by
      unfold zDu at hs
      cases h3:zFd [c]
      ·rw[h3] at hs
       simp only[Bool.false_eq_true,if_false] at hs
       split at hs
       ·rename_i h4;exact h4
       ·simp at hs
      ·simp[zFd] at h3
     have e1:=zLf c b hc
     have e2:=zLf c [] hc
     unfold zDu
     rw[show [c]++b=c :: b from rfl,e1,e2]
     rfl
    ·have e1:zFd (a++b)=zFd a:=by unfold zFd;rw[List.take_append_of_le_length (by omega)]
     unfold zDu;rw[e1,hby]
   rw[hs2,hs]
   exact⟨rfl,by omega⟩
  ·simp only[h1,h2,Bool.false_eq_true,if_false,if_true] at he hb ⊢
   refine⟨trivial,?_⟩
   unfold zA0 at he ⊢
   rw[List.drop_zero] at he ⊢
   have hn:NW b:=by rcases hb with h | h;exact absurd h (by decide);exact h
   rw[zE9 isD a b (by omega) (nw_d hn)];omega
 ·simp only[h1,if_true] at he hb ⊢
  refine⟨trivial,?_⟩
  unfold zA0 at he ⊢
  rw[List.drop_zero] at he ⊢
  have hn:NW b:=by rcases hb with h | h;exact absurd h (by decide);exact h
  rw[zE9 isW a b (by omega) hn];omega
theorem zIh (s:ByteArray) (j:Nat) (t:ByteArray) (b:List UInt8) (h:s.data.toList.drop j=t.data.toList++b):s.extract j (j+t.size)=t:=by
 apply ByteArray.ext
 apply Array.toList_inj.1
 rw[ByteArray.data_extract,Array.toList_extract,List.extract_eq_take_drop,h,Nat.add_sub_cancel_left]
 rw[←zAX t,List.take_left]
theorem zO7 (f:Nat) (s:ByteArray) (k k':Nat) (acc:List Tok) (h:zAU false s.data.toList k=zAU false s.data.toList k'):zDQ f s k acc=zDQ f s k' acc:=by
 cases f with
 | zero=>rfl
 | succ f=>rw[zDQ,zDQ,h]
theorem zMx (s:ByteArray) {l:List UInt8} {ts:List KT} (h:Spells l ts):∀(f k:Nat) (acc:List Tok),s.data.toList.drop k=l→k≤s.size→s.size<k+f→∃us,us.map ktOf=ts∧zDQ f s k acc=(acc++us,0,0):=by
 induction h with
 | nil =>
   intro f k acc hd hk hf
   have hk':¬k<s.data.toList.length:=by
    intro h';have:=congrArg List.length hd;rw[List.length_drop,List.length_nil] at this;omega
   refine⟨[],rfl,?_⟩
   rw[zD1 _ s k acc (by rw[zGc _ _ _ hk',←zAX];exact hk'),List.append_nil]
 | @blank c l ts hc h ih =>
   intro f k acc hd hk hf
   have hlen:=congrArg List.length hd
   rw[List.length_drop,List.length_cons,zAX] at hlen
   have hk':k<s.data.toList.length:=by rw[zAX];omega
   have hd2:s.data.toList.drop (k+1)=l:=by rw[←List.drop_drop,hd];rfl
   have hcc:s.data.toList[k]=c:=by
    rw[List.drop_eq_getElem_cons hk'] at hd;exact (List.cons.inj hd).1
   obtain⟨us,hu,hs⟩:=ih f (k+1) acc hd2 (by omega) (by omega)
   exact⟨us,hu,by rw[zO7 f s k (k+1) acc (zDm _ k hk' (by rw[hcc];exact hc))];exact hs⟩
 | @tok l ts t ht hn h ih =>
   intro f k acc hd hk hf
   obtain⟨h0,h4,hkz,hkind,hend,herr⟩:=(zDR _ _).1 ht
   have hlen:=congrArg List.length hd
   rw[List.length_drop,List.length_append,zAX,zAX] at hlen
   have hk':k<s.data.toList.length:=by rw[zAX];omega
   have hkd:zBE t.text.data.toList 0≠0:=by intro h';rw[h'] at hkind;exact hkz hkind.symm
   obtain⟨e1,e2⟩:=zO6 t.text.data.toList l (by rw[zAX];exact h0) (by rw[zAX];exact hend) hkd (by rcases hn with h' | h';exact Or.inl (by rw[h'] at hkind;exact Int.ofNat.inj hkind);exact Or.inr h')
   have k1:zBE s.data.toList k=zBE t.text.data.toList 0:=by rw[zKO,hd,e1]
   have k2:zBq s.data.toList k=k+t.text.size:=by rw[zLe,hd,e2,zAX]
   have htok:zA9 s k=⟨t.kind,k,t.text⟩:=by
    unfold zA9;rw[if_neg (by rw[k1];exact hkd),k1,k2,hkind,zIh s k t.text _ hd]
   obtain⟨hb1,hb2⟩:=zFT _ k hk' (by rw[k1];exact hkd)
   cases f with
   | zero=>omega
   | succ f =>
     have hd2:s.data.toList.drop (k+t.text.size)=l:=by rw[←List.drop_drop,hd,←zAX t.text,List.drop_left]
     obtain⟨us,hu,hs⟩:=ih f (k+t.text.size) (acc++[⟨t.kind,k,t.text⟩]) hd2 (by omega) (by omega)
     refine⟨⟨t.kind,k,t.text⟩ :: us,by rw[List.map_cons,hu];rfl,?_⟩
     rw[zDL f s k k acc (zFc _ k hk' hb1 hb2) (by omega) (by rw[htok];exact herr),k2,htok,hs]
     simp
def Pc0 (b:List UInt8) (ks:List KT):Prop:=∀l ts,Spells l ts→Spells (b++l) (ks++ts)
def Pc1 (b:List UInt8) (ks:List KT):Prop:=∀l ts,Spells l ts→NW l→Spells (b++l) (ks++ts)
theorem Pc0.one {b:List UInt8} {ks:List KT} (h:Pc0 b ks):Pc1 b ks:=fun l ts hl _=>h l ts hl
theorem zFA (t:KT) (ht:zEj t.kind t.text=true):Pc1 t.text.data.toList [t]:=fun _ _ hl hn=>Spells.tok t ht (Or.inr hn) hl
theorem zKP (t:KT) (ht:zEj t.kind t.text=true) (h3:t.kind=3):Pc0 t.text.data.toList [t]:=fun _ _ hl=>Spells.tok t ht (Or.inl h3) hl
theorem zTl:Pc0 [] []:=fun _ _ hl=>hl
theorem Pc0.app {a b:List UInt8} {ka kb:List KT} (ha:Pc0 a ka) (hb:Pc0 b kb):Pc0 (a++b) (ka++kb):=fun l ts hl=>by
 rw[List.append_assoc,List.append_assoc];exact ha _ _ (hb _ _ hl)
theorem Pc0.app1 {a b:List UInt8} {ka kb:List KT} (ha:Pc0 a ka) (hb:Pc1 b kb):Pc1 (a++b) (ka++kb):=fun l ts hl hn=>by
 rw[List.append_assoc,List.append_assoc];exact ha _ _ (hb _ _ hl hn)
theorem Pc1.app {a b:List UInt8} {ka kb:List KT} (ha:Pc1 a ka) (hb:Pc0 b kb) (hn:∀l,NW (b++l)):Pc0 (a++b) (ka++kb):=fun l ts hl=>by
 rw[List.append_assoc,List.append_assoc];exact ha _ _ (hb _ _ hl) (hn l)
theorem Pc1.app1 {a b:List UInt8} {ka kb:List KT} (ha:Pc1 a ka) (hb:Pc1 b kb) (hn:∀l,NW (b++l)):Pc1 (a++b) (ka++kb):=fun l ts hl hl2=>by
 rw[List.append_assoc,List.append_assoc];exact ha _ _ (hb _ _ hl hl2) (hn l)
theorem zFu {c:UInt8} {r:List UInt8} (h:isW c=false):NW (c :: r):=Or.inr ⟨c,r,rfl,h⟩
theorem zNr {b:List UInt8} {ks:List KT} (h:Pc1 b ks) {c:UInt8} (hc:isB c=true):Pc1 (c :: b) ks:=fun l ts hl hn=>Spells.blank hc (h l ts hl hn)
def zEh:KT:=⟨3,⟨#[44]⟩⟩
def zIQ:KT:=⟨3,⟨#[91]⟩⟩
def zEi:KT:=⟨3,⟨#[93]⟩⟩
theorem zJg {α:Type} (f:α→ByteArray) (g:α→List KT):∀(l:List α),(∀x∈l,Pc1 (f x).data.toList (g x))→∀b ts,Spells b ts→NW b →
 Spells (Lib.joinTail [32] (l.map fun x=>(f x).data.toList)++b) (l.flatMap g++ts)∧NW (Lib.joinTail [32] (l.map fun x=>(f x).data.toList)++b)
 | [],_,b,ts,hb,hn=>⟨hb,hn⟩
 | x :: l,h,b,ts,hb,hn=>by
   obtain⟨h1,h2⟩:=zJg f g l (fun y hy=>h y (List.mem_cons_of_mem _ hy)) b ts hb hn
   have e:Lib.joinTail [32] ((x :: l).map fun x=>(f x).data.toList)++b=32 :: ((f x).data.toList++(Lib.joinTail [32] (l.map fun x=>(f x).data.toList)++b)):=by simp[Lib.joinTail]
   rw[e]
   refine⟨Spells.blank (by decide) ?_,zFu (by decide)⟩
   rw[List.flatMap_cons,List.append_assoc]
   exact h x (List.mem_cons_self ..) _ _ h1 h2
theorem zJh {α:Type} (f:α→ByteArray) (g:α→List KT):∀(l:List α),(∀x∈l,Pc1 (f x).data.toList (g x))→∀b ts,Spells b ts→NW b →
 Spells (Lib.joinTail [44,32] (l.map fun x=>(f x).data.toList)++b) ((l.flatMap fun x=>zEh :: g x)++ts)∧NW (Lib.joinTail [44,32] (l.map fun x=>(f x).data.toList)++b)
 | [],_,b,ts,hb,hn=>⟨hb,hn⟩
 | x :: l,h,b,ts,hb,hn=>by
   obtain⟨h1,h2⟩:=zJh f g l (fun y hy=>h y (List.mem_cons_of_mem _ hy)) b ts hb hn
   have e:Lib.joinTail [44,32] ((x :: l).map fun x=>(f x).data.toList)++b=zEh.text.data.toList++(32 :: ((f x).data.toList++(Lib.joinTail [44,32] (l.map fun x=>(f x).data.toList)++b))):=by simp[Lib.joinTail,zEh]
   rw[e]
   refine⟨?_,zFu (by decide)⟩
   rw[List.flatMap_cons,List.cons_append,List.cons_append,List.append_assoc]
   refine Spells.tok zEh (by decide) (Or.inl rfl) (Spells.blank (by decide) ?_)
   exact h x (List.mem_cons_self ..) _ _ h1 h2
def zGY {α:Type} (g:α→List KT):List α→List KT
 | []=>[zIQ,zEi]
 | x :: r=>zIQ :: (g x++((r.flatMap fun y=>zEh :: g y)++[zEi]))
theorem zCX (ys:List ByteArray):(zA1 ys).data.toList=91 :: (zBM ys [44,32]++[93]):=by
 unfold zA1
 rw[ByteArray.data_append,ByteArray.data_append]
 simp
theorem zHO {α:Type} (f:α→ByteArray) (g:α→List KT) (l:List α) (h:∀x∈l,Pc1 (f x).data.toList (g x)):Pc0 (zA1 (l.map f)).data.toList (zGY g l):=by
 intro b ts hb
 rw[zCX]
 have hc:Spells (93 :: b) (zEi :: ts):=Spells.tok zEi (by decide) (Or.inl rfl) hb
 cases l with
 | nil=>exact Spells.tok zIQ (by decide) (Or.inl rfl) hc
 | cons x r =>
   have e:(91 :: (zBM ((x :: r).map f) [44,32]++[93]))++b=zIQ.text.data.toList++((f x).data.toList++(Lib.joinTail [44,32] (r.map fun x=>(f x).data.toList)++(93 :: b))):=by
    unfold zBM
    rw[List.map_cons,List.map_cons,Lib.join_cons,List.map_map]
    simp[zIQ,Function.comp_def]
   rw[e]
   obtain⟨h1,h2⟩:=zJh f g r (fun y hy=>h y (List.mem_cons_of_mem _ hy)) _ _ hc (zFu (by decide))
   have e2:zGY g (x :: r)++ts=zIQ :: (g x++((r.flatMap fun y=>zEh :: g y)++(zEi :: ts))):=by simp[zGY]
   rw[e2]
   exact Spells.tok zIQ (by decide) (Or.inl rfl) (h x (List.mem_cons_self ..) _ _ h1 h2)
def zIR:KT:=⟨3,zA5⟩
theorem zKQ (ps:List (ByteArray×List KT)) (h:∀x∈ps,Pc1 x.1.data.toList x.2) (hne:ps≠[]):Pc0 (zEH (ps.map (·.1))) (ps.flatMap (·.2)++[zIR]):=by
 intro b ts hb
 have hc:Spells (59 :: 10 :: b) (zIR :: ts):=Spells.tok (l:=10 :: b) zIR (by decide) (Or.inl rfl) (Spells.blank (by decide) hb)
 cases ps with
 | nil=>exact absurd rfl hne
 | cons x r =>
   have e:zEH ((x :: r).map (·.1))++b=x.1.data.toList++(Lib.joinTail [32] (r.map fun x=>x.1.data.toList)++(59 :: 10 :: b)):=by
    unfold zEH zBM
    rw[List.map_cons,List.map_cons,Lib.join_cons,List.map_map]
    simp[Function.comp_def]
   rw[e]
   obtain⟨h1,h2⟩:=zJg (fun x:ByteArray×List KT=>x.1) (fun x=>x.2) r (fun y hy=>h y (List.mem_cons_of_mem _ hy)) _ _ hc (zFu (by decide))
   have e2:((x :: r).flatMap (·.2)++[zIR])++ts=x.2++(r.flatMap (fun x=>x.2)++(zIR :: ts)):=by simp
   rw[e2]
   exact h x (List.mem_cons_self ..) _ _ h1 h2
theorem zB7 (s:ByteArray):s.toList=s.data.toList:=ByteArray.toList_eq s
theorem zMy (u:Nat):∀c∈Lib.decDigits u,48≤c.toNat∧c.toNat≤57:=by
 induction u using Nat.strongRecOn with
 | _ u ih =>
   rw[Lib.decDigits]
   split
   ·rename_i h
    intro c hc
    rw[List.mem_singleton.1 hc,UInt8.toNat_ofNat']
    omega
   ·rename_i h
    intro c hc
    rcases List.mem_append.1 hc with hc | hc
    ·exact ih (u / 10) (by omega) c hc
    ·rw[List.mem_singleton.1 hc,UInt8.toNat_ofNat']
     omega
theorem zTm (u:Nat):digV (Lib.decDigits u)=(u:Int):=by
 induction u using Nat.strongRecOn with
 | _ u ih =>
   rw[Lib.decDigits]
   split
   ·rename_i h
    simp only[digV,List.foldl_cons,List.foldl_nil,UInt8.toNat_ofNat']
    omega
   ·rename_i h
    have:=ih (u / 10) (by omega)
    unfold digV at this ⊢
    rw[List.foldl_append,this]
    simp only[List.foldl_cons,List.foldl_nil,UInt8.toNat_ofNat']
    omega
theorem zMz (k:Nat):∀u,u<10 ^ (k+1)→(Lib.decDigits u).length≤k+1:=by
 induction k with
 | zero=>intro u hu;rw[Lib.decDigits,dif_pos (by simpa using hu)];simp
 | succ k ih =>
   intro u hu
   rw[Lib.decDigits]
   split
   ·simp
   ·rw[List.length_append,List.length_singleton]
    have:=ih (u / 10) (by rw[Nat.pow_succ] at hu;omega)
    omega
theorem zLg (u:Nat) (h:0<u):∃c r,Lib.decDigits u=c :: r∧c.toNat≠48:=by
 induction u using Nat.strongRecOn with
 | _ u ih =>
   rw[Lib.decDigits]
   split
   ·rename_i h'
    refine⟨_,_,rfl,?_⟩
    rw[UInt8.toNat_ofNat'];omega
   ·rename_i h'
    obtain⟨c,r,e,hc⟩:=ih (u / 10) (by omega) (by omega)
    exact⟨c,r++[UInt8.ofNat (48+u % 10)],by rw[e];rfl,hc⟩
theorem zTn (u:Nat):Lib.decDigits u≠[]:=by
 rw[Lib.decDigits]
 split <;> simp
theorem zQz (p:UInt8→Bool) (l:List UInt8) (h:∀c∈l,p c=true):zA0 p l 0=l.length:=by
 unfold zA0
 rw[List.drop_zero]
 have:l.takeWhile p=l:=by
  induction l with
  | nil=>rfl
  | cons c r ih=>rw[List.takeWhile_cons,if_pos (h c (List.mem_cons_self ..)),ih fun d hd=>h d (List.mem_cons_of_mem _ hd)]
 rw[this];omega
def decB (u:Nat):ByteArray:=⟨(Lib.decDigits u).toArray⟩
theorem zQ0 (u:Nat) (h:u≤9999):zEj 2 (decB u)=true:=by
 have hd:(decB u).data.toList=Lib.decDigits u:=by simp[decB]
 have hsz:(decB u).size=(Lib.decDigits u).length:=by rw[←zAX,hd]
 have hl:=zMz 3 u (by omega)
 have hall:=zMy u
 have hne:=zTn u
 have hDall:∀c∈Lib.decDigits u,isD c=true:=fun c hc=>by
  have:=hall c hc
  simp only[isD,Bool.and_eq_true,decide_eq_true_eq];omega
 rw[zDR,hd,hsz]
 cases e:Lib.decDigits u with
 | nil=>exact absurd e hne
 | cons c r =>
   rw[e] at hl hall hDall
   have hc:=hall c (List.mem_cons_self ..)
   have hL:isL c=false:=by simp only[isL,Bool.and_eq_false_iff,decide_eq_false_iff_not];omega
   have hD:=hDall c (List.mem_cons_self ..)
   have hb:zBt (c :: r) 0=c:=rfl
   refine⟨by simp,by simp at hl ⊢;omega,by decide,?_,?_,?_⟩
   ·unfold zBE;rw[hb,hL,hD];rfl
   ·unfold zBq;rw[hb,hL,hD]
    simp only[Bool.false_eq_true,if_false,if_true]
    exact zQz _ _ hDall
   ·unfold zC3
    rw[if_neg (by decide),if_pos rfl,hsz,hd,e,if_neg (by omega),hb]
    by_cases h0:u=0
    ·subst h0
     rw[Lib.decDigits,dif_pos (by decide)] at e
     have:r=[]:=(List.cons.inj e).2.symm
     subst this
     rw[if_neg (by simp)]
    ·obtain⟨c2,r2,e2,hc2⟩:=zLg u (by omega)
     rw[e] at e2
     have:c=c2:=(List.cons.inj e2).1
     subst this
     rw[if_neg (by omega)]
def zNs:KT:=⟨3,⟨#[45]⟩⟩
def numK (n:Int):List KT:=if n<0 then [zNs,⟨2,decB n.natAbs⟩] else [⟨2,decB n.toNat⟩]
theorem zLh (n:Int) (h:-9999≤n∧n≤9999):Pc1 (numB n).data.toList (numK n):=by
 have e:(numB n).data.toList=Lib.itoa n:=by simp[numB]
 rw[e]
 unfold Lib.itoa numK
 split
 ·have h1:=zFA ⟨2,decB n.natAbs⟩ (zQ0 _ (by omega))
  have h0:Pc0 [45] [zNs]:=zKP zNs (by decide) rfl
  have:=h0.app1 h1
  simpa[decB] using this
 ·have h1:=zFA ⟨2,decB n.toNat⟩ (zQ0 _ (by omega))
  simpa[decB] using h1
def zBF {α:Type} (item:List Tok→PR α) (ks:List KT) (x:α):Prop:=∀us r,us.map ktOf=ks→item (us++r)=.ok x r
theorem zAm {us:List Tok} {t:KT} {ks:List KT} (h:us.map ktOf=t :: ks):∃u vs,us=u :: vs∧u.kind=t.kind∧u.text=t.text∧vs.map ktOf=ks:=by
 cases us with
 | nil=>cases h
 | cons u vs =>
   rw[List.map_cons] at h
   have h1:=(List.cons.inj h).1
   have h2:=(List.cons.inj h).2
   exact⟨u,vs,rfl,by rw[←h1];rfl,by rw[←h1];rfl,h2⟩
theorem zBh {us:List Tok} (h:us.map ktOf=[]):us=[]:=by cases us with | nil=>rfl | cons u r=>cases h
theorem zCw {us:List Tok} {a b:List KT} (h:us.map ktOf=a++b):∃x y,us=x++y∧x.map ktOf=a∧y.map ktOf=b:=by
 refine⟨us.take a.length,us.drop a.length,(List.take_append_drop _ _).symm,?_,?_⟩
 ·rw[List.map_take,h,List.take_left]
 ·rw[List.map_drop,h,List.drop_left]
theorem zBF.bind {α β:Type} {item:List Tok→PR α} {f:α→List Tok→PR β} {ka kb:List KT} {x:α} {y:β} (h:zBF item ka x) (h2:zBF (f x) kb y):zBF (fun l=>(item l).bind f) (ka++kb) y:=by
 intro us r hu
 obtain⟨a,b,rfl,h3,h4⟩:=zCw hu
 show (item ((a++b)++r)).bind f=_
 rw[List.append_assoc,h a (b++r) h3]
 exact h2 b r h4
theorem zBG {α:Type} (x:α):zBF (fun l=>PR.ok x l) [] x:=by
 intro us r hu;rw[zBh hu];rfl
theorem zCD {α:Type} (en:Int) (s:ByteArray) {f:Tok→List Tok→PR α} {k:Int} {ks:List KT} {x:α} (h:∀t,zBF (f t) ks x):zBF (fun l=>(zAN en s l).bind f) (⟨k,s⟩ :: ks) x:=by
 intro us r hu
 obtain⟨u,vs,rfl,h1,h2,h3⟩:=zAm hu
 have e:zAN en s (u :: vs++r)=.ok u (vs++r):=by
  unfold zAN zBZ
  rw[if_pos (by simp[zAI,h2])]
  rfl
 show (zAN en s (u :: vs++r)).bind f=_
 rw[e]
 exact h u vs r h3
theorem zFB (en:Int) (n:Int):zBF (zAJ en) (numK n) n:=by
 intro us r hu
 unfold numK at hu
 split at hu
 ·rename_i hn
  obtain⟨u,vs,rfl,h1,h2,h3⟩:=zAm hu
  obtain⟨u2,vs2,rfl,h4,h5,h6⟩:=zAm h3
  rw[zBh h6]
  unfold zAJ
  have e0:((zAI en (u :: [u2]++r)).text.toList==[45])=true:=by
   show (u.text.toList==[45])=true
   rw[zB7,h2];rfl
  rw[if_pos e0]
  have e:zAN en ⟨#[45]⟩ (u :: [u2]++r)=.ok u (u2 :: r):=by
   unfold zAN zBZ
   rw[if_pos (by simp[zAI,h2,zNs])]
   rfl
  rw[e]
  show (zBZ en (((zAI en (u2 :: r)).kind==2)&&(!((zAI en (u2 :: r)).text.toList==[48]))) (u2 :: r)).bind _=_
  have hd:u2.text.data.toList=Lib.decDigits n.natAbs:=by rw[h5];simp[decB]
  have e2:(((zAI en (u2 :: r)).kind==2)&&(!((zAI en (u2 :: r)).text.toList==[48])))=true:=by
   show ((u2.kind==2)&&(!(u2.text.toList==[48])))=true
   rw[h4,zB7,hd]
   obtain⟨c,q,e3,hc⟩:=zLg n.natAbs (by omega)
   rw[e3]
   have:((c :: q)==[48])=false:=by
    rw[beq_eq_false_iff_ne]
    intro h';apply hc;rw[(List.cons.inj h').1];rfl
   rw[this];rfl
  rw[e2]
  show PR.ok (-1 * digV u2.text.data.toList) r=_
  rw[hd,zTm]
  congr 1
  omega
 ·rename_i hn
  obtain⟨u2,vs2,rfl,h4,h5,h6⟩:=zAm hu
  rw[zBh h6]
  unfold zAJ
  have hd:u2.text.data.toList=Lib.decDigits n.toNat:=by rw[h5];simp[decB]
  have e0:((zAI en ([u2]++r)).text.toList==[45])=false:=by
   show (u2.text.toList==[45])=false
   rw[zB7,hd,beq_eq_false_iff_ne]
   intro h'
   have:=zMy n.toNat 45 (by rw[h'];simp)
   simp at this
  rw[if_neg (by rw[e0];decide)]
  have e2:((zAI en ([u2]++r)).kind==2)=true:=by show (u2.kind==2)=true;rw[h4];rfl
  rw[e2]
  show PR.ok (1 * digV u2.text.data.toList) r=_
  rw[hd,zTm]
  congr 1
  omega
def zQ1 (ks:List KT):Prop:=∃t r,ks=t :: r∧t.text.data.toList≠[93]
theorem zJi {α:Type} (en:Int) (item:List Tok→PR α) (g:α→List KT):∀(l:List α),(∀x∈l,zBF item (g x) x)→∀(f:Nat) (acc:List α) (us r:List Tok),us.map ktOf=(l.flatMap fun y=>zEh :: g y)++[zEi]→l.length<f →
 zB1 en item f acc (us++r)=.ok (acc++l) r
 | [],_,0,acc,us,r,hu,hf=>by simp at hf
 | [],_,f+1,acc,us,r,hu,hf=>by
   obtain⟨u,vs,rfl,h1,h2,h3⟩:=zAm (show us.map ktOf=zEi :: [] from hu)
   rw[zBh h3]
   unfold zB1
   have e0:((zAI en ([u]++r)).text.toList==[44])=false:=by show (u.text.toList==[44])=false;rw[zB7,h2];rfl
   rw[if_neg (by rw[e0];decide)]
   have e:zAN en ⟨#[93]⟩ ([u]++r)=.ok u r:=by
    unfold zAN zBZ
    rw[if_pos (by simp[zAI,h2,zEi])]
    rfl
   rw[e,List.append_nil]
   rfl
 | x :: l,h,0,acc,us,r,hu,hf=>by simp at hf
 | x :: l,h,f+1,acc,us,r,hu,hf=>by
   rw[List.flatMap_cons,List.append_assoc] at hu
   obtain⟨u,vs,rfl,h1,h2,h3⟩:=zAm (show us.map ktOf=zEh :: (g x++((l.flatMap fun y=>zEh :: g y)++[zEi])) from hu)
   obtain⟨a,b,rfl,h4,h5⟩:=zCw h3
   unfold zB1
   have e0:((zAI en (u :: (a++b)++r)).text.toList==[44])=true:=by show (u.text.toList==[44])=true;rw[zB7,h2];rfl
   rw[if_pos e0]
   have e:zAN en ⟨#[44]⟩ (u :: (a++b)++r)=.ok u (a++(b++r)):=by
    unfold zAN zBZ
    rw[if_pos (by simp[zAI,h2,zEh])]
    simp[zAI]
   rw[e]
   show (item (a++(b++r))).bind _=_
   rw[h x (List.mem_cons_self ..) a (b++r) h4]
   show zB1 en item f (acc++[x]) (b++r)=_
   rw[zJi en item g l (fun y hy=>h y (List.mem_cons_of_mem _ hy)) f (acc++[x]) b r h5 (by simp at hf;omega)]
   simp
theorem zEc {α:Type} (en:Int) (item:List Tok→PR α) (g:α→List KT) (l:List α) (h:∀x∈l,zBF item (g x) x) (ho:∀x∈l,zQ1 (g x)):zBF (zAZ en item) (zGY g l) l:=by
 intro us r hu
 cases l with
 | nil =>
   obtain⟨u,vs,rfl,h1,h2,h3⟩:=zAm (show us.map ktOf=zIQ :: [zEi] from hu)
   obtain⟨u2,vs2,rfl,h4,h5,h6⟩:=zAm h3
   rw[zBh h6]
   unfold zAZ
   have e:zAN en ⟨#[91]⟩ (u :: [u2]++r)=.ok u (u2 :: r):=by
    unfold zAN zBZ
    rw[if_pos (by simp[zAI,h2,zIQ])]
    rfl
   rw[e]
   show (if (zAI en (u2 :: r)).text.toList==[93] then (zAN en ⟨#[93]⟩ (u2 :: r)).bind fun _ l=>.ok [] l else _)=_
   rw[if_pos (by show (u2.text.toList==[93])=true;rw[zB7,h5];rfl)]
   have e2:zAN en ⟨#[93]⟩ (u2 :: r)=.ok u2 r:=by
    unfold zAN zBZ
    rw[if_pos (by simp[zAI,h5,zEi])]
    rfl
   rw[e2]
   rfl
 | cons x q =>
   obtain⟨u,vs,rfl,h1,h2,h3⟩:=zAm (show us.map ktOf=zIQ :: (g x++((q.flatMap fun y=>zEh :: g y)++[zEi])) from hu)
   obtain⟨a,b,rfl,h4,h5⟩:=zCw h3
   obtain⟨t,ks,e3,ht⟩:=ho x (List.mem_cons_self ..)
   obtain⟨u2,vs2,e4,h6,h7,h8⟩:=zAm (h4.trans e3)
   unfold zAZ
   have e:zAN en ⟨#[91]⟩ (u :: (a++b)++r)=.ok u (a++(b++r)):=by
    unfold zAN zBZ
    rw[if_pos (by simp[zAI,h2,zIQ])]
    simp[zAI]
   rw[e]
   show (if (zAI en (a++(b++r))).text.toList==[93] then (zAN en ⟨#[93]⟩ (a++(b++r))).bind fun _ l=>.ok [] l else (item (a++(b++r))).bind fun x l=>zB1 en item (l.length+1) [x] l)=_
   rw[if_neg (by rw[e4];show ¬(u2.text.toList==[93])=true;rw[zB7,h7];simpa using ht)]
   rw[h x (List.mem_cons_self ..) a (b++r) h4]
   show zB1 en item ((b++r).length+1) [x] (b++r)=_
   have hlen:q.length≤b.length:=by
    have:=congrArg List.length h5
    rw[List.length_map,List.length_append,List.length_flatMap] at this
    have h9:q.length≤(q.map fun y=>(zEh :: g y).length).sum:=by
     clear hu h3 h5 this h ho
     induction q with
     | nil=>simp
     | cons z q ih=>simp only[List.map_cons,List.sum_cons,List.length_cons] at ih ⊢;omega
    omega
   rw[zJi en item g q (fun y hy=>h y (List.mem_cons_of_mem _ hy)) _ [x] b r h5 (by rw[List.length_append];omega)]
   rfl
theorem zIS (s:ByteArray):∀l:List ByteArray,(∀t∈l,t.data.toList≠s.data.toList)→(zBg l s).2=false
 | [],_=>rfl
 | n :: r,h=>by
   have ih:=zIS s r fun t ht=>h t (List.mem_cons_of_mem _ ht)
   unfold zBg
   rw[if_neg (by rw[ih];decide),if_neg (h n (List.mem_cons_self ..))]
theorem zLi (s:ByteArray):∀(l:List ByteArray) (i:Nat),l[i]? = some s→(∀j t,j≠i→l[j]? = some t→t.data.toList≠s.data.toList)→zBg l s=((i:Int),true)
 | [],i,h,_=>by simp at h
 | n :: r,0,h,hd=>by
   have hn:n=s:=by simpa using h
   subst hn
   have h2:=zIS n r fun t ht=>by
    obtain⟨j,hj⟩:=List.mem_iff_getElem?.1 ht
    exact hd (j+1) t (by omega) (by simpa using hj)
   unfold zBg
   rw[if_neg (by rw[h2];decide),if_pos rfl];rfl
 | n :: r,i+1,h,hd=>by
   have ih:=zLi s r i (by simpa using h) fun j t hj ht=>hd (j+1) t (by omega) (by simpa using ht)
   unfold zBg
   rw[ih]
   rw[if_pos rfl]
   simp
def zBs (vars:List MVar):Prop:=(∀v∈vars,zBO v.name=true)∧∀(i j:Nat) (u v:MVar),i<j→vars[i]? = some u→vars[j]? = some v→u.name.data.toList≠v.name.data.toList
theorem zNt (m:Mod) (h:zAE m=0):zBs m.vars:=by
 have h1:=(zAx m h).2.2.2.1
 have hv:∀(i:Nat) (v:MVar),m.vars[i]? = some v→varE (m.vars.take i) v=0:=fun i v hv=>zCl _ h1 (varE (m.vars.take i) v) (by
  have hi:i<m.vars.length:=(List.getElem?_eq_some_iff.1 hv).1
  refine List.mem_map.2 ⟨i,List.mem_range.2 hi,?_⟩
  rw[List.getD_eq_getElem?_getD,hv];rfl)
 refine⟨fun v hm=>?_,fun i j u v hij hu hv2=>?_⟩
 ·obtain⟨i,hi⟩:=List.mem_iff_getElem?.1 hm
  have:=hv i v hi
  unfold varE at this
  split at this
  ·assumption
  ·cases this
 ·have:=hv j v hv2
  unfold varE at this
  split at this
  ·split at this
   ·cases this
   ·rename_i h2
    intro he
    apply h2
    rw[List.any_eq_true]
    refine⟨u,List.mem_of_getElem? (i:=i) (by rw[List.getElem?_take,if_pos hij];exact hu),?_⟩
    rw[zB7,zB7,he];simp
  ·cases this
def zFv (vars:List MVar) (i:Int):List KT:=[⟨1,zAQ vars i⟩]
theorem zJj {vars:List MVar} {i:Int} (hi:0≤i∧i<vars.length):∃v,vars[i.toNat]? = some v∧zAQ vars i=v.name:=by
 have hlt:i.toNat<vars.length:=by omega
 refine⟨vars[i.toNat],List.getElem?_eq_getElem hlt,?_⟩
 unfold zAQ
 rw[List.getD_eq_getElem?_getD,List.getElem?_eq_getElem hlt];rfl
theorem zNu {vars:List MVar} (h:zBs vars) {i:Int} (hi:0≤i∧i<vars.length):zEj 1 (zAQ vars i)=true:=by
 obtain⟨v,hv,e⟩:=zJj hi
 have:=h.1 v (List.mem_of_getElem? hv)
 unfold zBO at this
 rw[Bool.and_eq_true] at this
 rw[e];exact this.1
theorem zKR {vars:List MVar} (h:zBs vars) {i:Int} (hi:0≤i∧i<vars.length):Pc1 (zAQ vars i).data.toList (zFv vars i):=zFA ⟨1,zAQ vars i⟩ (zNu h hi)
theorem zBp (en:Int) {vars:List MVar} (h:zBs vars) {i:Int} (hi:0≤i∧i<vars.length):zBF (zAh en (vars.map MVar.name)) (zFv vars i) i:=by
 intro us r hu
 obtain⟨u,vs,rfl,h1,h2,h3⟩:=zAm hu
 rw[zBh h3]
 obtain⟨v,hv,e⟩:=zJj hi
 have hat:zBg (vars.map MVar.name) u.text=(i,true):=by
  rw[h2]
  show zBg (vars.map MVar.name) (zAQ vars i)=_
  rw[e]
  have:=zLi v.name (vars.map MVar.name) i.toNat (by rw[List.getElem?_map,hv];rfl) fun j t hj ht=>by
   rw[List.getElem?_map] at ht
   cases hj2:vars[j]? with
   | none=>rw[hj2] at ht;cases ht
   | some x =>
     rw[hj2] at ht
     have:x.name=t:=by simpa using ht
     subst this
     rcases Nat.lt_or_gt_of_ne hj with hlt | hlt
     ·exact h.2 j i.toNat x v hlt hj2 hv
     ·exact fun he=>h.2 i.toNat j v x hlt hv hj2 he.symm
  rw[this]
  congr 1
  omega
 unfold zAh
 show (if (zBg (vars.map MVar.name) u.text).2 then (zBZ en true (u :: r)).bind fun _ r=>.ok (zBg (vars.map MVar.name) u.text).1 r else _)=_
 rw[hat]
 rfl
theorem zJk {vars:List MVar} (h:zBs vars) {i:Int} (hi:0≤i∧i<vars.length):zQ1 (zFv vars i):=by
 refine⟨_,_,rfl,fun he=>?_⟩
 have:=((zDR _ _).1 (zNu h hi)).2.2.2.1
 have he':(zAQ vars i).data.toList=[93]:=he
 rw[he'] at this
 exact absurd this (by decide)
theorem zQ2 (n:Int):zQ1 (numK n):=by
 unfold numK
 split
 ·exact⟨_,_,rfl,by decide⟩
 ·refine⟨_,_,rfl,fun he=>?_⟩
  have he':Lib.decDigits n.toNat=[93]:=by simpa[decB] using he
  have:=zMy n.toNat 93 (by rw[he'];simp)
  simp at this
theorem zM0 {α:Type} (g:α→List KT) (l:List α):zQ1 (zGY g l):=by
 cases l with
 | nil=>exact⟨_,_,rfl,by decide⟩
 | cons x r=>exact⟨_,_,rfl,by decide⟩
theorem zFw (en:Int) (texts:List ByteArray) (t:ByteArray) (k kind:Int) (hk:kind≠0) (hi:idxA texts t 0=k) (h0:0≤k):zBF (zCI en texts) [⟨kind,t⟩] k:=by
 intro us r hu
 obtain⟨u,vs,rfl,h1,h2,h3⟩:=zAm hu
 rw[zBh h3]
 unfold zCI
 have e:(decide (0≤idxA texts (zAI en ([u]++r)).text 0)&&((zAI en ([u]++r)).kind != 0))=true:=by
  show (decide (0≤idxA texts u.text 0)&&(u.kind != 0))=true
  rw[h2,h1]
  simp[hi,h0,hk]
 rw[e]
 show PR.ok (idxA texts u.text 0) r=_
 rw[h2]
 show PR.ok (idxA texts t 0) r=_
 rw[hi]
theorem zSm (op:Int) (h:1≤op∧op≤4):idxA opWL (opWB op) 0=op∧zEj 3 (opWB op)=true:=by
 have:op=1∨op=2∨op=3∨op=4:=by omega
 rcases this with rfl | rfl | rfl | rfl <;> exact⟨by simp[idxA,opWL,opWB,zB7],by decide⟩
def zEI (k:Int):ByteArray:=zFR.getD k.toNat ByteArray.empty
theorem zQ3 (k:Int) (h:1≤k∧k≤10):idxA zFR (zEI k) 0=k∧zEj 1 (zEI k)=true:=by
 have:k=1∨k=2∨k=3∨k=4∨k=5∨k=6∨k=7∨k=8∨k=9∨k=10:=by omega
 rcases this with rfl | rfl | rfl | rfl | rfl | rfl | rfl | rfl | rfl | rfl <;> exact⟨by simp[idxA,zFR,zEI,zB7],by decide⟩
def zCZ (k:Int):ByteArray:=zCk.getD k.toNat ByteArray.empty
theorem zNv (k:Int) (h:0≤k∧k≤2):idxA zCk (zCZ k) 0=k∧zEj 1 (zCZ k)=true:=by
 have:k=0∨k=1∨k=2:=by omega
 rcases this with rfl | rfl | rfl <;> exact⟨by simp[idxA,zCk,zCZ,zB7],by decide⟩
def litK (vars:List MVar) (t:MLit):List KT:=zFv vars t.var++([⟨3,opWB t.op⟩]++(numK t.n++[]))
def zO8 (vars:List MVar) (t:MLit):Prop:=(0≤t.var∧t.var<vars.length)∧(1≤t.op∧t.op≤4)∧(-1000≤t.n∧t.n≤1000)
theorem zLj (vars:List MVar) (t:MLit):(zEb vars t).data.toList=(zAQ vars t.var).data.toList++(32 :: ((opWB t.op).data.toList++(32 :: (numB t.n).data.toList))):=by
 unfold zEb
 rw[ByteArray.data_append,ByteArray.data_append,ByteArray.data_append,ByteArray.data_append]
 simp
theorem zSn {vars:List MVar} (h:zBs vars) {t:MLit} (ht:zO8 vars t):Pc1 (zEb vars t).data.toList (litK vars t):=by
 rw[zLj]
 have hnum:=zLh t.n (by have:=ht.2.2;omega)
 have hop:=zKP ⟨3,opWB t.op⟩ (zSm t.op ht.2.1).2 rfl
 have h1:Pc1 ((opWB t.op).data.toList++(32 :: (numB t.n).data.toList)) ([⟨3,opWB t.op⟩]++(numK t.n++[])):=by
  rw[List.append_nil]
  exact hop.app1 (zNr hnum (by decide))
 exact (zKR h ht.1).app1 (zNr h1 (by decide)) fun l=>zFu (by decide)
theorem zLk (en:Int) {vars:List MVar} (h:zBs vars) {t:MLit} (ht:zO8 vars t):zBF (litP en (vars.map MVar.name)) (litK vars t) t:=by
 refine zBF.bind (f:=fun v l=>(zCI en opWL l).bind fun op l=>(zAJ en l).bind fun n l=>PR.ok (⟨v,op,n⟩:MLit) l) (zBp en h ht.1) ?_
 refine zBF.bind (f:=fun op l=>(zAJ en l).bind fun n l=>PR.ok (⟨t.var,op,n⟩:MLit) l) (zFw en opWL _ _ 3 (by decide) (zSm t.op ht.2.1).1 (by have:=ht.2.1;omega)) ?_
 refine zBF.bind (f:=fun n l=>PR.ok (⟨t.var,t.op,n⟩:MLit) l) (zFB en t.n) ?_
 exact zBG t
theorem zQ4 {vars:List MVar} (h:zBs vars) {t:MLit} (ht:zO8 vars t):zQ1 (litK vars t):=by
 obtain⟨a,r,e,hn⟩:=zJk h ht.1
 exact⟨a,r++([⟨3,opWB t.op⟩]++(numK t.n++[])),by unfold litK;rw[e];rfl,hn⟩
def zAw (vars:List MVar) (c:MCon):List ByteArray :=
 if c.kind=1∨c.kind=2∨c.kind=3 then [zDf c.consts,zA1 (c.vars.map (zAQ vars)),numB c.n]
 else if c.kind=4 then [zA1 (c.vars.map (zAQ vars))]
 else if c.kind=5 then [zDf c.consts,zAQ vars (c.vars.getD 0 0),zAQ vars (c.vars.getD 1 0)]
 else if c.kind=6 then [zA1 (c.vars.map (zAQ vars)),zA1 (c.rows.map zDf)]
 else if c.kind=7 then [zAQ vars (c.vars.getD 0 0),zAQ vars (c.vars.getD 1 0),zAQ vars (c.vars.getD 2 0)]
 else if c.kind=8 then [zAQ vars (c.vars.getD 0 0),zA1 ((c.vars.drop 1).map (zAQ vars))]
 else if c.kind=9 then [zA1 (c.lits.map (zEb vars))]
 else if c.kind=10 then [zAQ vars (c.vars.getD 0 0),zEb vars (c.lits.getD 0 ⟨0,0,0⟩)]
 else []
def zJl (vars:List MVar) (l:List Int):List KT:=zGY (zFv vars) l
def zM1 (l:List Int):List KT:=zGY numK l
def zGZ (vars:List MVar) (c:MCon):List (ByteArray×List KT) :=
 if c.kind=1∨c.kind=2∨c.kind=3 then [(zDf c.consts,zM1 c.consts),(zA1 (c.vars.map (zAQ vars)),zJl vars c.vars),(numB c.n,numK c.n)]
 else if c.kind=4 then [(zA1 (c.vars.map (zAQ vars)),zJl vars c.vars)]
 else if c.kind=5 then [(zDf c.consts,zM1 c.consts),(zAQ vars (c.vars.getD 0 0),zFv vars (c.vars.getD 0 0)),(zAQ vars (c.vars.getD 1 0),zFv vars (c.vars.getD 1 0))]
 else if c.kind=6 then [(zA1 (c.vars.map (zAQ vars)),zJl vars c.vars),(zA1 (c.rows.map zDf),zGY zM1 c.rows)]
 else if c.kind=7 then [(zAQ vars (c.vars.getD 0 0),zFv vars (c.vars.getD 0 0)),(zAQ vars (c.vars.getD 1 0),zFv vars (c.vars.getD 1 0)),(zAQ vars (c.vars.getD 2 0),zFv vars (c.vars.getD 2 0))]
 else if c.kind=8 then [(zAQ vars (c.vars.getD 0 0),zFv vars (c.vars.getD 0 0)),(zA1 ((c.vars.drop 1).map (zAQ vars)),zJl vars (c.vars.drop 1))]
 else if c.kind=9 then [(zA1 (c.lits.map (zEb vars)),zGY (litK vars) c.lits)]
 else if c.kind=10 then [(zAQ vars (c.vars.getD 0 0),zFv vars (c.vars.getD 0 0)),(zEb vars (c.lits.getD 0 ⟨0,0,0⟩),litK vars (c.lits.getD 0 ⟨0,0,0⟩))]
 else []
theorem zQ5 (vars:List MVar) (c:MCon):(zGZ vars c).map (·.1)=zAw vars c:=by
 unfold zGZ zAw
 split;· rfl
 split;· rfl
 split;· rfl
 split;· rfl
 split;· rfl
 split;· rfl
 split;· rfl
 split;· rfl
 rfl
structure ConOk (n:Nat) (c:MCon):Prop where
 kind:1≤c.kind∧c.kind≤10
 many:zF0 c=false
 form:zDS c=true
 vars:∀v∈c.vars,0≤v∧v<n
 consts:∀x∈c.consts,-1000≤x∧x≤1000
 num:-1000≤c.n∧c.n≤1000
 rows:∀r∈c.rows,∀x∈r,-1000≤x∧x≤1000
 lits:∀l∈c.lits,(0≤l.var∧l.var<n)∧(1≤l.op∧l.op≤4)∧(-1000≤l.n∧l.n≤1000)
theorem zIT (x:Int):zAT x=true↔-1000≤x∧x≤1000:=by simp[zAT,inB]
theorem zLl (v n:Int):zBu v n=true↔0≤v∧v<n:=by simp[zBu]
theorem zTM (n:Nat) (c:MCon) (h:conE n c=0):ConOk n c:=by
 unfold conE at h
 split at h
 ·rename_i hk
  split at h
  ·cases h
  ·rename_i hm
   split at h
   ·rename_i hf
    split at h
    ·rename_i hv
     split at h
     ·rename_i hc
      unfold zHR at hv
      unfold zDT at hc
      unfold zN4 at h
      simp only[Bool.and_eq_true,List.all_eq_true,zLl,zIT] at hv hc
      split at h
      ·rename_i ho
       split at h
       ·rename_i hn
        simp only[List.all_eq_true,Bool.and_eq_true,decide_eq_true_eq,zIT] at ho hn
        exact⟨hk,by simpa using hm,hf,hv.1,hc.1,hc.2.1,hc.2.2,fun l hl=>⟨hv.2 l hl,ho l hl,hn l hl⟩⟩
       ·cases h
      ·cases h
     ·cases h
    ·cases h
   ·cases h
 ·cases h
theorem zSS {l:List Int} {i:Nat} (h:i<l.length):l.getD i 0∈l:=by
 rw[List.getD_eq_getElem?_getD,List.getElem?_eq_getElem h];exact List.getElem_mem h
theorem zQ6 (l:List Int) (h:∀x∈l,-1000≤x∧x≤1000):Pc0 (zDf l).data.toList (zM1 l):=zHO numB numK l fun x hx=>zLh x (by have:=h x hx;omega)
theorem zNw {vars:List MVar} (h:zBs vars) (l:List Int) (hl:∀x∈l,0≤x∧x<vars.length):Pc0 (zA1 (l.map (zAQ vars))).data.toList (zJl vars l):=zHO _ _ l fun x hx=>zKR h (hl x hx)
theorem zEd (c:MCon) (h:zDS c=true):(c.kind=5→c.vars.length=2)∧(c.kind=7→c.vars.length=3)∧(c.kind=8→2≤c.vars.length)∧(c.kind=10→c.vars.length=1∧c.lits.length=1):=by
 unfold zDS at h
 refine⟨fun e=>?_,fun e=>?_,fun e=>?_,fun e=>?_⟩ <;> (rw[e] at h;simp at h)
 ·exact h.2.1
 ·exact h.2.1
 ·exact h.2.1
 ·exact⟨h.2.1,h.2.2.1⟩
theorem zST {vars:List MVar} (h:zBs vars) {c:MCon} (hc:ConOk vars.length c):∀x∈zGZ vars c,Pc1 x.1.data.toList x.2:=by
 obtain⟨f5,f7,f8,f10⟩:=zEd c hc.form
 have hv:∀i:Nat,i<c.vars.length→Pc1 (zAQ vars (c.vars.getD i 0)).data.toList (zFv vars (c.vars.getD i 0)):=fun i hi=>zKR h (hc.vars _ (zSS hi))
 have hns:=zNw h c.vars hc.vars
 have hcs:=zQ6 c.consts hc.consts
 unfold zGZ
 split
 ·simp only[List.forall_mem_cons,List.not_mem_nil,false_imp_iff,implies_true,and_true]
  exact⟨hcs.one,hns.one,zLh _ (by have:=hc.num;omega)⟩
 split
 ·simp only[List.forall_mem_cons,List.not_mem_nil,false_imp_iff,implies_true,and_true]
  exact hns.one
 split
 ·rename_i hk
  have:=f5 hk
  simp only[List.forall_mem_cons,List.not_mem_nil,false_imp_iff,implies_true,and_true]
  exact⟨hcs.one,hv 0 (by omega),hv 1 (by omega)⟩
 split
 ·simp only[List.forall_mem_cons,List.not_mem_nil,false_imp_iff,implies_true,and_true]
  exact⟨hns.one,(zHO zDf zM1 c.rows fun r hr=>(zQ6 r (hc.rows r hr)).one).one⟩
 split
 ·rename_i hk
  have:=f7 hk
  simp only[List.forall_mem_cons,List.not_mem_nil,false_imp_iff,implies_true,and_true]
  exact⟨hv 0 (by omega),hv 1 (by omega),hv 2 (by omega)⟩
 split
 ·rename_i hk
  have:=f8 hk
  simp only[List.forall_mem_cons,List.not_mem_nil,false_imp_iff,implies_true,and_true]
  exact⟨hv 0 (by omega),(zNw h _ fun x hx=>hc.vars x (List.mem_of_mem_drop hx)).one⟩
 split
 ·simp only[List.forall_mem_cons,List.not_mem_nil,false_imp_iff,implies_true,and_true]
  exact (zHO (zEb vars) (litK vars) c.lits fun l hl=>zSn h (hc.lits l hl)).one
 split
 ·rename_i hk
  have:=f10 hk
  simp only[List.forall_mem_cons,List.not_mem_nil,false_imp_iff,implies_true,and_true]
  refine⟨hv 0 (by omega),zSn h (hc.lits _ ?_)⟩
  rw[List.getD_eq_getElem?_getD,List.getElem?_eq_getElem (show 0<c.lits.length by omega)];exact List.getElem_mem _
 ·intro x hx;cases hx
def zSU (vars:List MVar) (c:MCon):List KT:=(zGZ vars c).flatMap (·.2)
theorem zA8 {α:Type} {l:List α} (h:l.length=0):l=[]:=List.eq_nil_of_length_eq_zero h
theorem zO9 (en:Int) {vars:List MVar} (h:zBs vars) {c:MCon} (hc:ConOk vars.length c):zBF (zBQ en (vars.map MVar.name) c.kind) (zSU vars c) c:=by
 obtain⟨hk,_,hf,hv,hcs,hn,hr,hl⟩:=hc
 obtain⟨kind,vs,cs,n,rows,lits⟩:=c
 simp only at hk hf hv hcs hn hr hl
 have rNames:∀l:List Int,(∀x∈l,0≤x∧x<vars.length)→zBF (zAZ en (zAh en (vars.map MVar.name))) (zJl vars l) l:=fun l hl=>zEc en _ _ l (fun x hx=>zBp en h (hl x hx)) (fun x hx=>zJk h (hl x hx))
 have rNums:∀l:List Int,zBF (zAZ en (zAJ en)) (zM1 l) l:=fun l=>zEc en _ _ l (fun x _=>zFB en x) (fun x _=>zQ2 x)
 have hcases:(kind=1∨kind=2∨kind=3)∨kind=4∨kind=5∨kind=6∨kind=7∨kind=8∨kind=9∨kind=10:=by omega
 unfold zDS at hf
 unfold zSU zGZ
 rcases hcases with hk | rfl | rfl | rfl | rfl | rfl | rfl | rfl
 ·simp only[hk,if_true] at hf ⊢
  simp only[Bool.and_eq_true,decide_eq_true_eq] at hf
  obtain rfl:=zA8 (show rows.length=0 by omega)
  obtain rfl:=zA8 (show lits.length=0 by omega)
  have e:zBQ en (vars.map MVar.name) kind=fun l=>(zAZ en (zAJ en) l).bind fun cs l=>(zAZ en (zAh en (vars.map MVar.name)) l).bind fun vs l=>(zAJ en l).bind fun n l=>.ok ⟨kind,vs,cs,n,[],[]⟩ l:=by
   funext l;unfold zBQ;rw[if_pos hk]
  rw[e]
  refine zBF.bind (rNums cs) (zBF.bind (rNames vs hv) (zBF.bind (zFB en n) (zBG _)))
 ·simp at hf ⊢
  obtain⟨rfl,hf⟩:=hf
  obtain rfl:=zA8 (show rows.length=0 by simp[hf])
  obtain rfl:=zA8 (show lits.length=0 by simp[hf])
  obtain rfl:=zA8 (show cs.length=0 by simp[hf])
  have e:zBQ en (vars.map MVar.name) 4=fun l=>(zAZ en (zAh en (vars.map MVar.name)) l).bind fun vs l=>.ok ⟨4,vs,[],0,[],[]⟩ l:=by
   funext l;simp[zBQ]
  rw[e]
  have:=zBF.bind (f:=fun vs l=>PR.ok (⟨4,vs,[],0,[],[]⟩:MCon) l) (rNames vs hv) (zBG _)
  simpa using this
 ·simp at hf ⊢
  obtain⟨rfl,hf⟩:=hf
  obtain rfl:=zA8 (show rows.length=0 by simp[hf])
  obtain rfl:=zA8 (show lits.length=0 by simp[hf])
  obtain⟨a,b,rfl⟩:∃a b,vs=[a,b]:=by
   have h2:vs.length=2:=hf.1
   match vs,h2 with
   | [a,b],_=>exact⟨a,b,rfl⟩
  have e:zBQ en (vars.map MVar.name) 5=fun l=>(zAZ en (zAJ en) l).bind fun cs l=>(zAh en (vars.map MVar.name) l).bind fun a l=>(zAh en (vars.map MVar.name) l).bind fun b l=>.ok ⟨5,[a,b],cs,0,[],[]⟩ l:=by
   funext l;simp[zBQ]
  rw[e]
  have:=zBF.bind (f:=fun cs l=>(zAh en (vars.map MVar.name) l).bind fun a l=>(zAh en (vars.map MVar.name) l).bind fun b l=>PR.ok (⟨5,[a,b],cs,0,[],[]⟩:MCon) l) (rNums cs) (zBF.bind (zBp en h (hv a (by simp))) (zBF.bind (zBp en h (hv b (by simp))) (zBG _)))
  simpa using this
 ·simp at hf ⊢
  obtain⟨rfl,hf⟩:=hf
  obtain rfl:=zA8 (show cs.length=0 by simp[hf])
  obtain rfl:=zA8 (show lits.length=0 by simp[hf])
  have e:zBQ en (vars.map MVar.name) 6=fun l=>(zAZ en (zAh en (vars.map MVar.name)) l).bind fun vs l=>(zAZ en (zAZ en (zAJ en)) l).bind fun rs l=>.ok ⟨6,vs,[],0,rs,[]⟩ l:=by
   funext l;simp[zBQ]
  rw[e]
  have:=zBF.bind (f:=fun vs l=>(zAZ en (zAZ en (zAJ en)) l).bind fun rs l=>PR.ok (⟨6,vs,[],0,rs,[]⟩:MCon) l) (rNames vs hv) (zBF.bind (zEc en _ zM1 rows (fun r _=>rNums r) (fun r _=>zM0 _ r)) (zBG _))
  simpa using this
 ·simp at hf ⊢
  obtain⟨rfl,hf⟩:=hf
  obtain rfl:=zA8 (show rows.length=0 by simp[hf])
  obtain rfl:=zA8 (show lits.length=0 by simp[hf])
  obtain rfl:=zA8 (show cs.length=0 by simp[hf])
  obtain⟨a,b,d,rfl⟩:∃a b d,vs=[a,b,d]:=by
   have h2:vs.length=3:=hf.1
   match vs,h2 with
   | [a,b,d],_=>exact⟨a,b,d,rfl⟩
  have e:zBQ en (vars.map MVar.name) 7=fun l=>(zAh en (vars.map MVar.name) l).bind fun a l=>(zAh en (vars.map MVar.name) l).bind fun b l=>(zAh en (vars.map MVar.name) l).bind fun c l=>.ok ⟨7,[a,b,c],[],0,[],[]⟩ l:=by
   funext l;simp[zBQ]
  rw[e]
  have:=zBF.bind (f:=fun a l=>(zAh en (vars.map MVar.name) l).bind fun b l=>(zAh en (vars.map MVar.name) l).bind fun c l=>PR.ok (⟨7,[a,b,c],[],0,[],[]⟩:MCon) l) (zBp en h (hv a (by simp))) (zBF.bind (zBp en h (hv b (by simp))) (zBF.bind (zBp en h (hv d (by simp))) (zBG _)))
  simpa using this
 ·simp at hf ⊢
  obtain⟨rfl,hf⟩:=hf
  obtain rfl:=zA8 (show rows.length=0 by simp[hf])
  obtain rfl:=zA8 (show lits.length=0 by simp[hf])
  obtain rfl:=zA8 (show cs.length=0 by simp[hf])
  obtain⟨a,q,rfl⟩:∃a q,vs=a :: q:=by
   have h2:2≤vs.length:=hf.1
   match vs,h2 with
   | a :: q,_=>exact⟨a,q,rfl⟩
  have e:zBQ en (vars.map MVar.name) 8=fun l=>(zAh en (vars.map MVar.name) l).bind fun a l=>(zAZ en (zAh en (vars.map MVar.name)) l).bind fun vs l=>.ok ⟨8,[a]++vs,[],0,[],[]⟩ l:=by
   funext l;simp[zBQ]
  rw[e]
  have:=zBF.bind (f:=fun a l=>(zAZ en (zAh en (vars.map MVar.name)) l).bind fun vs l=>PR.ok (⟨8,[a]++vs,[],0,[],[]⟩:MCon) l) (zBp en h (hv a (by simp))) (zBF.bind (rNames q (fun x hx=>hv x (by simp[hx]))) (zBG _))
  simpa using this
 ·simp at hf ⊢
  obtain⟨rfl,hf⟩:=hf
  obtain rfl:=zA8 (show rows.length=0 by simp[hf])
  obtain rfl:=zA8 (show vs.length=0 by simp[hf])
  obtain rfl:=zA8 (show cs.length=0 by simp[hf])
  have e:zBQ en (vars.map MVar.name) 9=fun l=>(zAZ en (litP en (vars.map MVar.name)) l).bind fun ls l=>.ok ⟨9,[],[],0,[],ls⟩ l:=by
   funext l;simp[zBQ]
  rw[e]
  have:=zBF.bind (f:=fun ls l=>PR.ok (⟨9,[],[],0,[],ls⟩:MCon) l) (zEc en _ (litK vars) lits (fun t ht=>zLk en h (hl t ht)) (fun t ht=>zQ4 h (hl t ht))) (zBG _)
  simpa using this
 ·simp at hf ⊢
  obtain⟨rfl,hf⟩:=hf
  obtain rfl:=zA8 (show rows.length=0 by simp[hf])
  obtain rfl:=zA8 (show cs.length=0 by simp[hf])
  obtain⟨a,rfl⟩:∃a,vs=[a]:=List.length_eq_one_iff.1 hf.1
  obtain⟨t,rfl⟩:∃t,lits=[t]:=List.length_eq_one_iff.1 hf.2.1
  have e:zBQ en (vars.map MVar.name) 10=fun l=>(zAh en (vars.map MVar.name) l).bind fun a l=>(litP en (vars.map MVar.name) l).bind fun t l=>.ok ⟨10,[a],[],0,[],[t]⟩ l:=by
   funext l;simp[zBQ]
  rw[e]
  have:=zBF.bind (f:=fun a l=>(litP en (vars.map MVar.name) l).bind fun t l=>PR.ok (⟨10,[a],[],0,[],[t]⟩:MCon) l) (zBp en h (hv a (by simp))) (zBF.bind (zLk en h (hl t (by simp))) (zBG _))
  simpa using this
def varT:KT:=⟨1,varW⟩
def conT:KT:=⟨1,conW⟩
def zJm:KT:=⟨1,zBo⟩
def varK (v:MVar):List KT:=varT :: ([⟨1,v.name⟩]++(⟨3,colW⟩ :: (numK v.lo++(⟨3,zCF⟩ :: (numK v.hi++(⟨3,zA5⟩ :: []))))))
def zPA (v:MVar):Prop:=zBO v.name=true∧-50≤v.lo∧v.lo≤50∧-50≤v.hi∧v.hi≤50
def zAn (v:MVar):List UInt8:=zEH [varW,v.name++colW,numB v.lo++zCF++numB v.hi]
theorem zTo {v:MVar} (h:zPA v):Pc0 (zAn v) (varK v):=by
 have ht:zEj 1 v.name=true:=by have:=h.1;unfold zBO at this;rw[Bool.and_eq_true] at this;exact this.1
 have h1:Pc1 varW.data.toList [varT]:=zFA varT (by decide)
 have hcol:Pc0 colW.data.toList [⟨3,colW⟩]:=zKP ⟨3,colW⟩ (by decide) rfl
 have hdots:Pc0 zCF.data.toList [⟨3,zCF⟩]:=zKP ⟨3,zCF⟩ (by decide) rfl
 have h2:Pc1 (v.name++colW).data.toList ([⟨1,v.name⟩]++[⟨3,colW⟩]):=by
  rw[ByteArray.data_append,Array.toList_append]
  exact ((zFA ⟨1,v.name⟩ ht).app hcol fun l=>zFu (by decide)).one
 have h3:Pc1 (numB v.lo++zCF++numB v.hi).data.toList (numK v.lo++([⟨3,zCF⟩]++numK v.hi)):=by
  rw[ByteArray.data_append,ByteArray.data_append,Array.toList_append,Array.toList_append,List.append_assoc]
  exact (zLh v.lo (by have:=h.2;omega)).app1 (hdots.app1 (zLh v.hi (by have:=h.2;omega))) fun l=>zFu (by decide)
 have:=zKQ [(varW,[varT]),(v.name++colW,[⟨1,v.name⟩]++[⟨3,colW⟩]),(numB v.lo++zCF++numB v.hi,numK v.lo++([⟨3,zCF⟩]++numK v.hi))] (by
  simp only[List.forall_mem_cons,List.not_mem_nil,false_imp_iff,implies_true,and_true]
  exact⟨h1,h2,h3⟩) (by simp)
 have e:varK v=([(varW,[varT]),(v.name++colW,[⟨1,v.name⟩]++[⟨3,colW⟩]),(numB v.lo++zCF++numB v.hi,numK v.lo++([⟨3,zCF⟩]++numK v.hi))]:List (ByteArray×List KT)).flatMap (·.2)++[zIR]:=by
  simp[varK,zIR]
 rw[e]
 exact this
theorem zSV {s:ByteArray} (h:zBO s=true):zFQ s=true:=by
 unfold zFQ
 have h1:varE [] ⟨s,0,0⟩=0:=by
  unfold varE
  rw[if_pos h,if_neg (by simp),if_pos (by simp[inB]),if_neg (by simp)]
 have h2:zPN [⟨s,0,0⟩]=0:=by
  show zAi [varE [] ⟨s,0,0⟩]=0
  rw[h1];rfl
 have h3:zAE ⟨[⟨s,0,0⟩],[],0,0⟩=0:=by
  unfold zAE
  rw[if_neg (by simp),if_neg (by simp)]
  simp only[h2,if_true]
  rfl
 rw[h3];rfl
theorem zKS (en:Int) {s:ByteArray} (h:zBO s=true) (k:Int):zBF (zCL en) [⟨k,s⟩] s:=by
 intro us r hu
 obtain⟨u,vs,rfl,h1,h2,h3⟩:=zAm hu
 rw[zBh h3]
 unfold zCL
 have e:zFQ (zAI en ([u]++r)).text=true:=by show zFQ u.text=true;rw[h2];exact zSV h
 rw[e]
 show PR.ok u.text r=_
 rw[h2]
theorem zQ7 (en:Int) {v:MVar} (h:zPA v):zBF (zDz en) (varK v) v:=by
 refine zCD en varW (f:=fun _ l=>(zCL en l).bind fun n l=>(zAN en colW l).bind fun _ l=>(zAJ en l).bind fun lo l=>(zAN en zCF l).bind fun _ l=>(zAJ en l).bind fun hi l=>(zAN en zA5 l).bind fun _ l=>PR.ok (⟨n,lo,hi⟩:MVar) l) fun _=>?_
 refine zBF.bind (f:=fun n l=>(zAN en colW l).bind fun _ l=>(zAJ en l).bind fun lo l=>(zAN en zCF l).bind fun _ l=>(zAJ en l).bind fun hi l=>(zAN en zA5 l).bind fun _ l=>PR.ok (⟨n,lo,hi⟩:MVar) l) (zKS en h.1 1) ?_
 refine zCD en colW (f:=fun _ l=>(zAJ en l).bind fun lo l=>(zAN en zCF l).bind fun _ l=>(zAJ en l).bind fun hi l=>(zAN en zA5 l).bind fun _ l=>PR.ok (⟨v.name,lo,hi⟩:MVar) l) fun _=>?_
 refine zBF.bind (f:=fun lo l=>(zAN en zCF l).bind fun _ l=>(zAJ en l).bind fun hi l=>(zAN en zA5 l).bind fun _ l=>PR.ok (⟨v.name,lo,hi⟩:MVar) l) (zFB en v.lo) ?_
 refine zCD en zCF (f:=fun _ l=>(zAJ en l).bind fun hi l=>(zAN en zA5 l).bind fun _ l=>PR.ok (⟨v.name,v.lo,hi⟩:MVar) l) fun _=>?_
 refine zBF.bind (f:=fun hi l=>(zAN en zA5 l).bind fun _ l=>PR.ok (⟨v.name,v.lo,hi⟩:MVar) l) (zFB en v.hi) ?_
 exact zCD en zA5 (f:=fun _ l=>PR.ok v l) fun _=>zBG v
def conK (vars:List MVar) (c:MCon):List KT:=conT :: ([⟨1,zEI c.kind⟩]++(zSU vars c++(⟨3,zA5⟩ :: [])))
def zAz (vars:List MVar) (c:MCon):List UInt8:=zEH ([conW,zEI c.kind]++zAw vars c)
theorem zTp {vars:List MVar} (h:zBs vars) {c:MCon} (hc:ConOk vars.length c):Pc0 (zAz vars c) (conK vars c):=by
 have:=zKQ ((conW,[conT]) :: (zEI c.kind,[⟨1,zEI c.kind⟩]) :: zGZ vars c) (by
  simp only[List.forall_mem_cons]
  exact⟨zFA conT (by decide),zFA ⟨1,zEI c.kind⟩ (zQ3 c.kind hc.kind).2,zST h hc⟩) (by simp)
 have e1:zAz vars c=zEH (((conW,[conT]) :: (zEI c.kind,[⟨1,zEI c.kind⟩]) :: zGZ vars c).map (·.1)):=by
  rw[List.map_cons,List.map_cons,zQ5];rfl
 have e2:conK vars c=((conW,[conT]) :: (zEI c.kind,[⟨1,zEI c.kind⟩]) :: zGZ vars c).flatMap (·.2)++[zIR]:=by
  simp[conK,zSU,zIR]
 rw[e1,e2]
 exact this
theorem zQ8 (en:Int) {vars:List MVar} (h:zBs vars) {c:MCon} (hc:ConOk vars.length c):zBF (conP en (vars.map MVar.name)) (conK vars c) c:=by
 refine zCD en conW (f:=fun _ l=>(zCI en zFR l).bind fun k l=>(zBQ en (vars.map MVar.name) k l).bind fun c l=>(zAN en zA5 l).bind fun _ l=>.ok c l) fun _=>?_
 refine zBF.bind (f:=fun k l=>(zBQ en (vars.map MVar.name) k l).bind fun c l=>(zAN en zA5 l).bind fun _ l=>.ok c l) (zFw en zFR _ _ 1 (by decide) (zQ3 c.kind hc.kind).1 (by have:=hc.kind;omega)) ?_
 refine zBF.bind (f:=fun c l=>(zAN en zA5 l).bind fun _ l=>.ok c l) (zO9 en h hc) ?_
 exact zCD en zA5 (f:=fun _ l=>PR.ok c l) fun _=>zBG c
def zSW (m:Mod):List KT:=zJm :: ([⟨1,zCZ m.goal⟩]++(if m.goal=0 then ⟨3,zA5⟩ :: [] else zFv m.vars m.var++(⟨3,zA5⟩ :: [])))
def zBy (m:Mod):List UInt8:=if m.goal=0 then zEH [zBo,zCZ m.goal] else zEH [zBo,zCZ m.goal,zAQ m.vars m.var]
def zEJ (m:Mod):Prop:=(m.goal=0∧m.var=0)∨((m.goal=1∨m.goal=2)∧0≤m.var∧m.var<m.vars.length)
theorem zTN {m:Mod} (h:zBs m.vars) (hg:zEJ m):Pc0 (zBy m) (zSW m):=by
 have hw:zEj 1 (zCZ m.goal)=true:=(zNv m.goal (by unfold zEJ at hg;omega)).2
 unfold zBy zSW
 rcases hg with ⟨h0,_⟩ | ⟨h0,h1⟩
 ·rw[if_pos h0,if_pos h0]
  have:=zKQ [(zBo,[zJm]),(zCZ m.goal,[⟨1,zCZ m.goal⟩])] (by
   simp only[List.forall_mem_cons,List.not_mem_nil,false_imp_iff,implies_true,and_true]
   exact⟨zFA zJm (by decide),zFA ⟨1,zCZ m.goal⟩ hw⟩) (by simp)
  simpa[zIR] using this
 ·rw[if_neg (by omega),if_neg (by omega)]
  have:=zKQ [(zBo,[zJm]),(zCZ m.goal,[⟨1,zCZ m.goal⟩]),(zAQ m.vars m.var,zFv m.vars m.var)] (by
   simp only[List.forall_mem_cons,List.not_mem_nil,false_imp_iff,implies_true,and_true]
   exact⟨zFA zJm (by decide),zFA ⟨1,zCZ m.goal⟩ hw,zKR h h1⟩) (by simp)
  simpa[zIR] using this
theorem zPB (en:Int) {m:Mod} (h:zBs m.vars) (hg:zEJ m):zBF (zLH en (m.vars.map MVar.name)) (zSW m) (m.goal,m.var):=by
 have hw:=(zNv m.goal (by unfold zEJ at hg;omega)).1
 refine zCD en zBo (f:=fun _ l=>(zCI en zCk l).bind fun g l=>if g=0 then (zAN en zA5 l).bind fun _ l=>.ok (g,0) l else (zAh en (m.vars.map MVar.name) l).bind fun v l=>(zAN en zA5 l).bind fun _ l=>.ok (g,v) l) fun _=>?_
 refine zBF.bind (f:=fun g l=>if g=0 then (zAN en zA5 l).bind fun _ l=>.ok (g,0) l else (zAh en (m.vars.map MVar.name) l).bind fun v l=>(zAN en zA5 l).bind fun _ l=>.ok (g,v) l) (zFw en zCk _ _ 1 (by decide) hw (by unfold zEJ at hg;omega)) ?_
 rcases hg with ⟨h0,h2⟩ | ⟨h0,h1⟩
 ·simp only[h0,if_true]
  rw[h2]
  exact zCD en zA5 (f:=fun _ l=>PR.ok ((0:Int),(0:Int)) l) fun _=>zBG _
 ·simp only[if_neg (show ¬m.goal=0 by omega)]
  refine zBF.bind (f:=fun v l=>(zAN en zA5 l).bind fun _ l=>.ok (m.goal,v) l) (zBp en h h1) ?_
  exact zCD en zA5 (f:=fun _ l=>PR.ok (m.goal,m.var) l) fun _=>zBG _
theorem zM2 {α:Type} (f:α→List UInt8) (g:α→List KT):∀(l:List α),(∀x∈l,Pc0 (f x) (g x))→Pc0 (l.flatMap f) (l.flatMap g)
 | [],_=>zTl
 | x :: l,h=>by
   rw[List.flatMap_cons,List.flatMap_cons]
   exact (h x (List.mem_cons_self ..)).app (zM2 f g l fun y hy=>h y (List.mem_cons_of_mem _ hy))
theorem zJn (en:Int):∀(vs:List MVar),(∀v∈vs,zPA v)→∀(f:Nat) (acc:List MVar) (us r:List Tok),us.map ktOf=vs.flatMap varK→vs.length<f→(zAI en r).text.data.toList≠[118,97,114] →
 zGt en f acc (us++r)=.ok (acc++vs) r
 | _,_,0,_,_,_,_,hf,_=>by omega
 | [],_,f+1,acc,us,r,hu,_,hr=>by
   rw[zBh hu]
   show zGt en (f+1) acc r=_
   unfold zGt
   rw[if_neg (by rw[zB7];simpa using hr),List.append_nil]
 | v :: vs,h,f+1,acc,us,r,hu,hf,hr=>by
   rw[List.flatMap_cons] at hu
   obtain⟨a,b,rfl,h1,h2⟩:=zCw hu
   obtain⟨u,q,e,h3,h4,_⟩:=zAm (show a.map ktOf=varT :: _ from h1)
   rw[List.append_assoc]
   unfold zGt
   rw[if_pos (by rw[e];show (u.text.toList==[118,97,114])=true;rw[zB7,h4];rfl)]
   rw[zQ7 en (h v (List.mem_cons_self ..)) a (b++r) h1]
   show zGt en f (acc++[v]) (b++r)=_
   rw[zJn en vs (fun y hy=>h y (List.mem_cons_of_mem _ hy)) f (acc++[v]) b r h2 (by simp at hf;omega) hr]
   simp
theorem zJo (en:Int) {vars:List MVar} (hn:zBs vars):∀(cs:List MCon),(∀c∈cs,ConOk vars.length c)→∀(f:Nat) (acc:List MCon) (us r:List Tok),us.map ktOf=cs.flatMap (conK vars)→cs.length<f→(zAI en r).text.data.toList≠[99,111,110] →
 zFr en (vars.map MVar.name) f acc (us++r)=.ok (acc++cs) r
 | _,_,0,_,_,_,_,hf,_=>by omega
 | [],_,f+1,acc,us,r,hu,_,hr=>by
   rw[zBh hu]
   show zFr en (vars.map MVar.name) (f+1) acc r=_
   unfold zFr
   rw[if_neg (by rw[zB7];simpa using hr),List.append_nil]
 | c :: cs,h,f+1,acc,us,r,hu,hf,hr=>by
   rw[List.flatMap_cons] at hu
   obtain⟨a,b,rfl,h1,h2⟩:=zCw hu
   obtain⟨u,q,e,h3,h4,_⟩:=zAm (show a.map ktOf=conT :: _ from h1)
   rw[List.append_assoc]
   unfold zFr
   rw[if_pos (by rw[e];show (u.text.toList==[99,111,110])=true;rw[zB7,h4];rfl)]
   rw[zQ8 en hn (h c (List.mem_cons_self ..)) a (b++r) h1]
   show zFr en (vars.map MVar.name) f (acc++[c]) (b++r)=_
   rw[zJo en hn cs (fun y hy=>h y (List.mem_cons_of_mem _ hy)) f (acc++[c]) b r h2 (by simp at hf;omega) hr]
   simp
def modB (m:Mod):List UInt8:=m.vars.flatMap zAn++(m.cons.flatMap (zAz m.vars)++zBy m)
def modK (m:Mod):List KT:=m.vars.flatMap varK++(m.cons.flatMap (conK m.vars)++zSW m)
structure ModOk (m:Mod):Prop where
 vars:∀v∈m.vars,zPA v
 names:zBs m.vars
 cons:∀c∈m.cons,ConOk m.vars.length c
 goal:zEJ m
theorem zSo (m:Mod) (h:zAE m=0):ModOk m:=by
 refine⟨fun v hv=>?_,zNt m h,fun c hc=>?_,?_⟩
 ·obtain⟨i,hi⟩:=List.mem_iff_getElem?.1 hv
  have h1:=zIl m h i v hi
  have h2:=(zNt m h).1 v hv
  exact⟨h2,by omega⟩
 ·obtain⟨i,hi⟩:=List.mem_iff_getElem?.1 hc
  exact zTM _ _ (zHS m h i c hi)
 ·have h1:=(zAx m h).2.2.2.2.2
  unfold zJx at h1
  unfold zEJ
  split at h1
  ·split at h1
   ·exact Or.inl ⟨by assumption,by assumption⟩
   ·cases h1
  ·split at h1
   ·split at h1
    ·rename_i h2 h3
     rw[zLl] at h3
     exact Or.inr ⟨h2,h3⟩
    ·cases h1
   ·cases h1
theorem zTq {m:Mod} (h:ModOk m):Pc0 (modB m) (modK m) :=
 (zM2 zAn varK m.vars fun v hv=>zTo (h.vars v hv)).app ((zM2 (zAz m.vars) (conK m.vars) m.cons fun c hc=>zTp h.names (h.cons c hc)).app (zTN h.names h.goal))
theorem zIU {α:Type} (g:α→List KT) (hg:∀x,g x≠[]):∀l:List α,l.length≤(l.flatMap g).length
 | []=>by simp
 | x :: l=>by
   have:=zIU g hg l
   have h1:0<(g x).length:=List.length_pos_iff.2 (hg x)
   rw[List.flatMap_cons,List.length_append,List.length_cons];omega
theorem zJp (en:Int) (u:Tok) (r:List Tok):zAI en (u :: r)=u:=rfl
theorem zQ9 (en:Int) {m:Mod} (h:ModOk m) (us:List Tok) (hu:us.map ktOf=modK m):zJU en us=.ok m []:=by
 obtain⟨a,b,rfl,h1,h2⟩:=zCw hu
 obtain⟨c,d,rfl,h3,h4⟩:=zCw h2
 obtain⟨u,q,ed,hk,ht,_⟩:=zAm (show d.map ktOf=zJm :: _ from h4)
 have hd1:(zAI en d).text.data.toList=[115,111,108,118,101]:=by rw[ed,zJp,ht];rfl
 have hcd:(zAI en (c++d)).text.data.toList≠[118,97,114]:=by
  cases hc:m.cons with
  | nil=>rw[hc] at h3;rw[zBh h3];show (zAI en d).text.data.toList≠_;rw[hd1];decide
  | cons x xs =>
    rw[hc,List.flatMap_cons] at h3
    obtain⟨u2,q2,e2,_,ht2,_⟩:=zAm (show c.map ktOf=conT :: _ from h3)
    rw[e2,List.cons_append,zJp,ht2];decide
 unfold zJU
 have l1:m.vars.length≤a.length:=by
  have:=congrArg List.length h1
  rw[List.length_map] at this
  rw[this];exact zIU varK (fun x=>by simp[varK]) _
 have l2:m.cons.length≤c.length:=by
  have:=congrArg List.length h3
  rw[List.length_map] at this
  rw[this];exact zIU _ (fun x=>by simp[conK]) _
 rw[zJn en m.vars h.vars _ [] a (c++d) h1 (by rw[List.length_append];omega) hcd]
 show (zFr en (m.vars.map MVar.name) ((c++d).length+1) [] (c++d)).bind _=_
 rw[zJo en h.names m.cons h.cons _ [] c d h3 (by rw[List.length_append];omega) (by rw[hd1];decide)]
 show (zLH en (m.vars.map MVar.name) d).bind _=_
 have:=zPB en h.names h.goal d [] h4
 rw[List.append_nil] at this
 rw[this]
 rfl
theorem zM3 (m:Mod) (h:zAE m=0) (hl:(modB m).length≤4000):zAu ⟨(modB m).toArray⟩=(m,0,0):=by
 have hm:=zSo m h
 have hsp:Spells (modB m) (modK m):=by
  have:=zTq hm [] [] Spells.nil
  rwa [List.append_nil,List.append_nil] at this
 have hsz:(⟨(modB m).toArray⟩:ByteArray).size=(modB m).length:=by rw[←zAX]
 obtain⟨us,hu,hs⟩:=zMx ⟨(modB m).toArray⟩ hsp ((⟨(modB m).toArray⟩:ByteArray).size+1) 0 [] (by simp) (by omega) (by omega)
 have hsc:zAr ⟨(modB m).toArray⟩=(us,0,0):=by
  unfold zAr
  rw[if_neg (by rw[hsz];omega),hs];rfl
 have hr:zDk (⟨(modB m).toArray⟩:ByteArray).size us=(m,0,0):=by
  unfold zDk
  rw[zQ9 _ hm us hu]
 unfold zAu
 rw[hsc]
 simp only[hr,h,if_true]
end Go.Proofs.YtdjbejlbmaiocagGreatDoor
