/- What the proof leans on, part 2. -/
import Derived.Test.YtndcpnlaadikoaaGreatDoorPartAa
import Derived.Deep.QuietTactic
import Derived.BigQuiet
namespace Go.Proofs.YtndcpnlaadikoaaGreatDoor
open Go.RowKit
theorem Tryz.infoTok:(Tryz.prog.info? 161).map (fun i=>(i.zero,i.size,i.bytes))=some (some (.agg #[.int .i64 0,.int .i64 0,.string ByteArray.empty]),3,32):=by kernel_rfl
def zA5 (t:Tok):List Value:=[.int .i64 t.kind,.int .i64 t.place,.string t.text]
def zAz (l:List Tok):List Value:=l.flatMap zA5
theorem zAD {w w':World} {base:Nat} {e:TypeId} {size:Nat} {v:Value} {n:Nat} {xs:List Value} (h:w.ownsRow base e size v n xs) (hb:Below w.heap.size w w'):w'.ownsRow base e size v n xs:=by
 refine⟨h.1,?_⟩
 rcases h.2 with hn | ⟨g,cap,cur,hv,hg,hh,r⟩
 ·exact .inl hn
 ·exact .inr ⟨g,cap,cur,hv,hg,by rw[hb.block g (Array.getElem?_eq_some_iff.1 hh).1];exact hh,r⟩
theorem zJx (w:World) (t:Tok):∀(j:Nat) (u:Value),(zA5 t)[j]? = some u →
 (w.alloc (.cells #[.int .i64 t.kind,.int .i64 t.place,.string t.text] 161)).cell? ((⟨w.heap.size,0,none⟩:Addr).add j)=some u:=by
 intro j u hj
 match j,hj with
 | 0,hj=>simp[zA5] at hj;subst hj;simp[Addr.add]
 | 1,hj=>simp[zA5] at hj;subst hj;simp[Addr.add]
 | 2,hj=>simp[zA5] at hj;subst hj;simp[Addr.add]
theorem zIP (t:Tok):∀(u:Value),u∈zA5 t→u.oneCell'=true:=by
 intro u hu
 simp only[zA5,List.mem_cons,List.not_mem_nil,or_false] at hu
 rcases hu with rfl | rfl | rfl <;> rfl
theorem zJy (s:ByteArray) (j:Nat):(zAt s j).text.size≤s.size:=by
 unfold zAt
 split
 ·simp
 ·show (s.extract _ _).size≤_
  rw[ByteArray.size_extract];omega
set_option maxHeartbeats 1000000 in
set_option maxRecDepth 100000 in
theorem zL8 (s:ByteArray) (hs:s.size≤4000) (w:World) :
 Calls Tryz.prog 74 #[.string s] w fun e w'=>∃v,e=.returned (.tuple #[v,.int .i64 (zA9 s).2.1,.int .i64 (zA9 s).2.2]) ∧
  w'.ownsRow w.heap.size 161 3 v (zA9 s).1.length (zAz (zA9 s).1)∧Below w.heap.size w w':=by
 have HS:Hid (s.size≤maxLen):=by show s.size≤maxLen;unfold maxLen;omega
 obtain⟨i0,hi,hz0,hz1,hz2⟩:=info_parts Tryz.infoTok
 obtain⟨R,hR⟩:∃R,R=zA9 s:=⟨_,rfl⟩
 rw[←hR]
 have HR:Hid (R=zDd (s.size+1) s 0 []):=by rw[hR];unfold zA9;rw[if_neg (by omega)];rfl
 clear hR
 have h0:=zHF false s.data.toList 0 (Nat.zero_le _)
 go_enter Tryz.func74,Tryz.ntmps74
 go_wp2_with fail
 refine (zJG s 0 (Nat.zero_le _) HS.out _).mono ?_
 rintro e w ⟨rfl,rfl⟩
 go_wp2_with fail
 go_loopw [5,6] (fun v i wr=>∃(k f j:Nat) (acc:List Tok),i=.int .i64 j∧Hid (zAT false s.data.toList k=j)∧Hid (R=zDd f s k acc)∧s.size<k+f∧k≤s.size∧j≤s.size∧k≤j∧acc.length≤k ∧
  wr.ownsRow w.heap.size 161 3 v acc.length (zAz acc)∧Below w.heap.size w wr) (fun _ i _=>s.size - (intOf i).toNat)
 case atStart=>exact⟨0,s.size+1,_,[],rfl,rfl,HR,by omega,by omega,by simpa using h0.2,h0.1,Nat.le_refl _,World.ownsRow_nil _ _ _ _,Below.refl _ _⟩
 case round =>
  obtain⟨k,f,j,acc,rfl,hj,hR,hf,hk,hjs,hkj,hacc,hown,hbw⟩:=hrel
  by_cases hlt:j<s.size
  ·have hl:j<s.data.toList.length:=by simpa using hlt
   obtain⟨f,rfl⟩:∃f',f=f'+1:=⟨f - 1,by omega⟩
   obtain⟨t,ht⟩:∃t,t=zAt s j:=⟨_,rfl⟩
   have HT:Hid (t=zAt s j):=ht
   have htx:t.text.size≤s.size:=by rw[ht];exact zJy s j
   have HTS:Hid (t.text.size≤maxLen):=Nat.le_trans htx HS.out
   have hsz:=hbw.size
   clear ht
   by_cases he:zCk t.kind t.text=0
   ·have HR2:Hid (R=zDd f s (zB8 s.data.toList j) (acc++[t])):=by rw[hR.out,HT.out];exact zDM f s k j acc hj.out hlt (by rw[←HT.out];exact he)
    have HER:Hid (zCk t.kind t.text=0):=he
    have hkd:zB5 s.data.toList j≠0:=zF3 s j (by rw[←HT.out];exact he)
    have hen:j<zB8 s.data.toList j:=zL6 _ j hl hkd
    have hen2:zB8 s.data.toList j≤s.size:=by simpa using (zJD _ j hl).2
    have HTE:Hid (t.text.size=zB8 s.data.toList j - j):=by
     rw[HT.out];unfold zAt;rw[if_neg hkd];exact zCV _ _ _ hen2
    clear he hkd
    go_wp2_with fail
    refine (zJH s j hlt HS.out _).mono ?_
    rintro e w1 ⟨rfl,hb1⟩
    rw[←HT.out];unfold tokV
    have hs1:=hb1.size
    go_wp2_with fail
    refine (zHH _ _ _ HTS.out _).mono ?_
    rintro e w2 ⟨rfl,hb2⟩
    rw[HER.out]
    have hs2:w1.heap.size+1≤w2.heap.size:=by simpa using hb2.size
    have hc0:w2.cell? ⟨w1.heap.size,0,none⟩=some (.int .i64 t.kind):=(hb2.cell (by simp)).trans (by simp)
    have hc1:w2.cell? ⟨w1.heap.size,1,none⟩=some (.int .i64 t.place):=(hb2.cell (by simp)).trans (by simp)
    have hc2:w2.cell? ⟨w1.heap.size,2,none⟩=some (.string t.text):=(hb2.cell (by simp)).trans (by simp)
    have hown2:w2.ownsRow w.heap.size 161 3 u5 acc.length (zAz acc):=zAD ((zAD hown hb1).alloc _) hb2
    go_wp2_with (at_builtin;refine wpList_append_own _ rfl _ _ 86 rfl w.heap.size 161 i0 (.agg #[.int .i64 0,.int .i64 0,.string ByteArray.empty]) 3 32 Tryz.underlying86 hi hz0 hz1 hz2 rfl (by decide) _ _ _ rfl (hown2.alloc _) ⟨w2.heap.size,0,none⟩ 1 1 (zA5 t) rfl rfl ?c1 ?c2 ?c3 ?c4 ?c5 ?_)
    case c1=>exact zJx w2 t
    case c2=>exact zIP t
    case c3=>unfold maxLen;omega
    case c4=>omega
    case c5=>simp;omega
    intro v3 w3 hown3 hgrow _
    have hc3:w3.cell? ⟨w1.heap.size,2,none⟩=some (.string t.text):=hgrow.cell ((World.cell?_alloc_past _ _ _ (by omega)).trans hc2) (by intro h;have hq:=(hown.lt _ h.symm).2;simp only at hq;omega)
    have hb3:Below w.heap.size w w3:=((((hbw.trans (hb1.mono hsz)).alloc (by omega) _).trans (hb2.mono (by simp;omega))).alloc (by omega) _).grown hgrow (by simp;omega) (fun b h=>(hown.lt _ h).1)
    have hown4:w3.ownsRow w.heap.size 161 3 v3 (acc++[t]).length (zAz (acc++[t])):=by
     have e1:zAz (acc++[t])=zAz acc++zA5 t:=by simp[zAz]
     rw[e1,List.length_append];exact hown3
    clear hown3 hgrow hown2 hc0 hc1 hc2 hb2 hb1 hown hbw hs1 hs2 hsz
    have hjt:(j:Int)+(t.text.size:Int)=((zB8 s.data.toList j:Nat):Int):=by rw[HTE.out];omega
    have HJT:Hid ((j:Int)+(t.text.size:Int)=((zB8 s.data.toList j:Nat):Int)):=hjt
    clear hjt
    go_wp2_with fail
    rw[HJT.out]
    refine (zJG s (zB8 s.data.toList j) hen2 HS.out _).mono ?_
    rintro e w3 ⟨rfl,rfl⟩
    have h5:=zHF false s.data.toList (zB8 s.data.toList j) (by simpa using hen2)
    have h51:=h5.1
    have h52:zAT false s.data.toList (zB8 s.data.toList j)≤s.size:=by simpa using h5.2
    clear h5
    go_wp2
    go_roundw
    case rel=>exact⟨zB8 s.data.toList j,f,_,acc++[t],rfl,rfl,HR2,by omega,hen2,h52,h51,by simp;omega,hown4,hb3⟩
    case measure=>simp[intOf];omega
   ·have HR2:Hid (R=([],j,zCk t.kind t.text)):=by rw[hR.out,HT.out];exact zE8 f s k j acc hj.out hlt (by rw[←HT.out];exact he)
    have he':(zCk t.kind t.text != 0)=true:=by simpa using he
    clear he
    obtain⟨er,HER⟩:∃er,Hid (zCk t.kind t.text=er):=⟨_,rfl⟩
    rw[HER.out] at HR2 he'
    go_wp2_with fail
    refine (zJH s j hlt HS.out _).mono ?_
    rintro e w1 ⟨rfl,hb1⟩
    rw[←HT.out];unfold tokV
    have hs1:=hb1.size
    go_wp2_with fail
    refine (zHH _ _ _ HTS.out _).mono ?_
    rintro e w2 ⟨rfl,hb2⟩
    rw[HER.out]
    go_wp2
    go_ret3
    rw[HR2.out]
    exact⟨_,rfl,World.ownsRow_nil _ _ _ _,((hbw.trans (hb1.mono hsz)).alloc (by omega) _).trans (hb2.mono (by simp;omega))⟩
  ·have HR2:Hid (R=(acc,0,0)):=by rw[hR.out];exact zDr f s k acc (by rw[hj.out];exact hlt)
   go_wp2
   go_ret3
   rw[HR2.out]
   exact⟨_,rfl,hown,hbw⟩
set_option maxHeartbeats 400000 in
set_option maxRecDepth 100000 in
theorem zDs (s:ByteArray) (hs:s.size≤maxLen) (w:World) :
 Calls Tryz.prog 74 #[.string s] w fun e w'=>∃v,e=.returned (.tuple #[v,.int .i64 (zA9 s).2.1,.int .i64 (zA9 s).2.2]) ∧
  w'.ownsRow w.heap.size 161 3 v (zA9 s).1.length (zAz (zA9 s).1)∧Below w.heap.size w w':=by
 by_cases h:s.size≤4000
 ·exact zL8 s h w
 ·unfold maxLen at hs
  have hR:zA9 s=([],0,2):=by unfold zA9;rw[if_pos (by omega)]
  rw[hR]
  clear hR
  go_enter Tryz.func74,Tryz.ntmps74
  go_wp2
  go_ret3
  exact⟨_,rfl,World.ownsRow_nil _ _ _ _,Below.refl _ _⟩
theorem zCu (w:World) (a b:Nat):(w.drewN a).drewN b=w.drewN (a+b):=by
 unfold World.drewN;simp only[Nat.add_assoc]
def zNw (w:World) (b off:Nat) (ts:List Tok):Prop :=
 ∀(i:Nat) (t:Tok),ts[i]? = some t→w.cell? ⟨b,off+i * 3,none⟩=some (.int .i64 t.kind)∧w.cell? ⟨b,off+i * 3+1,none⟩=some (.int .i64 t.place)∧w.cell? ⟨b,off+i * 3+2,none⟩=some (.string t.text)
def zHJ (t:Tok):Bool :=
 ((zA9 t.text).2.2==0)&&(((zA9 t.text).1.length==1)&&(((zA9 t.text).1.headD ⟨0,0,ByteArray.empty⟩).kind==t.kind&&((zA9 t.text).1.headD ⟨0,0,ByteArray.empty⟩).text.toList==t.text.toList))
theorem zAE {w:World} {base:Nat} {e:TypeId} {size n:Nat} {v:Value} {xs:List Value} (h:w.ownsRow base e size v n xs):∃a cap,v=.slice a n cap:=by
 rcases h.2 with ⟨rfl,rfl⟩ | ⟨g,cap,cur,rfl,_⟩
 ·exact⟨_,_,rfl⟩
 ·exact⟨_,_,rfl⟩
theorem zIQ {w:World} {base:Nat} {v:Value} {ts:List Tok} (h:w.ownsRow base 161 3 v ts.length (zAz ts)) (h0:ts≠[]) :
 ∃g cap,v=.slice (some ⟨g,0,none⟩) ts.length cap∧base≤g∧g<w.heap.size∧zNw w g 0 ts:=by
 rcases h.2 with ⟨_,hn⟩ | ⟨g,cap,cur,hv,hg,hb,hrest⟩
 ·exact absurd (List.eq_nil_of_length_eq_zero hn) h0
 ·have hlt:g<w.heap.size:=(Array.getElem?_eq_some_iff.1 hb).1
  refine⟨g,cap,hv,hg,hlt,?_⟩
  have hc:=h.cells (g:=g) (by rw[hv];rfl)
  intro i t ht
  have key:∀j,j<3→(zAz ts)[i * 3+j]? = (zA5 t)[j]? := by
   intro j hj
   clear hc h hrest hb hv h0
   induction ts generalizing i with
   | nil=>simp at ht
   | cons a r ih =>
     cases i with
     | zero =>
       simp at ht;subst ht
       simp only[zAz,List.flatMap_cons]
       rw[List.getElem?_append_left (by simp[zA5];omega)];simp
     | succ i =>
       simp only[zAz,List.flatMap_cons]
       rw[List.getElem?_append_right (by simp[zA5];omega)]
       have e1:(i+1) * 3+j - (zA5 a).length=i * 3+j:=by simp[zA5];omega
       rw[e1]
       exact ih i (by simpa using ht)
  have hadd:∀j,(⟨g,0,none⟩:Addr).add j=⟨g,0+j,none⟩:=fun j=>by unfold Addr.add;split <;> simp_all
  refine⟨?_,?_,?_⟩
  ·have:=hc (i * 3+0) _ (by rw[key 0 (by omega)];rfl);rw[hadd] at this;exact this
  ·have:=hc (i * 3+1) _ (by rw[key 1 (by omega)];rfl);rw[hadd] at this;exact this
  ·have:=hc (i * 3+2) _ (by rw[key 2 (by omega)];rfl);rw[hadd] at this;exact this
theorem zFr (l:List UInt8) (k:Nat) (hk:k<l.length) (h:zB5 l k≠0):isB l[k]=false∧((l[k].toNat:Int)==37)=false:=by
 have hb:=zCj l k hk
 have hb0:zCi (l.drop k) 0=l[k]:=by rw[←hb];unfold zCi;simp
 unfold zB5 at h
 rw[hb] at h
 have hs:isL l[k]=true∨isD l[k]=true∨zDc (l.drop k)≠0:=by
  cases h1:isL l[k]
  ·cases h2:isD l[k]
   ·right;right;intro h3;simp[h1,h2,h3] at h
   ·right;left;rfl
  ·left;rfl
 have ne:∀n:Int,(n=32∨n=9∨n=10∨n=37)→(l[k].toNat:Int)≠n:=by
  intro n hn he
  have e32:n≤37:=by omega
  rcases hs with h1 | h1 | h1
  ·simp only[isL,Bool.and_eq_true,decide_eq_true_eq] at h1;omega
  ·simp only[isD,Bool.and_eq_true,decide_eq_true_eq] at h1;omega
  ·unfold zDc at h1
   split at h1
   ·rename_i h2
    rw[List.drop_eq_getElem_cons hk] at h2
    simp only[zIN,Bool.or_eq_true,beq_iff_eq,List.take_succ_cons,List.cons.injEq] at h2
    rcases h2 with h2 | h2 | h2 | h2 | h2 <;> (rw[h2.1] at he;simp at he;omega)
   ·split at h1
    ·rename_i h2
     rw[hb0] at h2
     simp only[zL5,Bool.or_eq_true,beq_iff_eq] at h2
     omega
    ·exact h1 rfl
 refine⟨?_,by simpa using ne 37 (by omega)⟩
 unfold isB
 rw[show ((l[k].toNat:Int)==32)=false by simpa using ne 32 (by omega),show ((l[k].toNat:Int)==9)=false by simpa using ne 9 (by omega),show ((l[k].toNat:Int)==10)=false by simpa using ne 10 (by omega)]
 rfl
theorem zJz (f:Nat) (s:ByteArray):∀(k:Nat) (acc:List Tok),(zDd f s k acc).2.2=0→∃r,(zDd f s k acc).1=acc++r:=by
 induction f with
 | zero=>intro k acc _;exact⟨[],by simp[zDd]⟩
 | succ f ih =>
   intro k acc h
   by_cases h1:zAT false s.data.toList k<s.size
   ·by_cases h2:zCk (zAt s (zAT false s.data.toList k)).kind (zAt s (zAT false s.data.toList k)).text=0
    ·rw[zDM f s k _ acc rfl h1 h2] at h ⊢
     obtain⟨r,hr⟩:=ih _ _ h
     exact⟨zAt s (zAT false s.data.toList k) :: r,by rw[hr];simp⟩
    ·rw[zE8 f s k _ acc rfl h1 h2] at h;exact absurd h h2
   ·exact⟨[],by rw[zDr _ s k acc h1];simp⟩
def zIR (kind:Int) (s:ByteArray):Bool :=
 decide (0<s.size)&&(decide (s.size≤4000)&&(decide (kind≠0)&&(decide ((zB5 s.data.toList 0:Int)=kind)&&(decide (zB8 s.data.toList 0=s.size)&&decide (zCk kind s=0)))))
theorem zHK (kind:Int) (s:ByteArray):zIR kind s=true↔0<s.size∧s.size≤4000∧kind≠0∧(zB5 s.data.toList 0:Int)=kind∧zB8 s.data.toList 0=s.size∧zCk kind s=0:=by
 simp only[zIR,Bool.and_eq_true,decide_eq_true_eq]
theorem zGd (s:ByteArray):s.extract 0 s.size=s:=by
 apply ByteArray.ext
 rw[ByteArray.data_extract];exact Array.extract_size
theorem zEv (s:ByteArray):s.data.toList.length=s.size:=by simp
theorem zGe (kind:Int) (s:ByteArray) (h:zIR kind s=true):zA9 s=([⟨kind,0,s⟩],0,0):=by
 obtain⟨h0,h4,hk,hkind,hend,herr⟩:=(zHK kind s).1 h
 have hl:0<s.data.toList.length:=by rw[zEv];exact h0
 have hkd:zB5 s.data.toList 0≠0:=by intro h';rw[h'] at hkind;exact hk hkind.symm
 obtain⟨hb1,hb2⟩:=zFr _ 0 hl hkd
 have hsk:zAT false s.data.toList 0=0:=zE7 _ 0 hl hb1 hb2
 have ht:zAt s 0=⟨kind,0,s⟩:=by
  unfold zAt;rw[if_neg hkd,hend,hkind,zGd];rfl
 have he:zCk (zAt s 0).kind (zAt s 0).text=0:=by rw[ht];exact herr
 unfold zA9
 rw[if_neg (by omega),zDM _ s 0 0 [] hsk h0 he,hend,ht]
 rw[zDr _ s s.size _ (by rw[zF2 _ _ _ (by rw[zEv];omega)];omega)]
 simp
theorem zKs (t:Tok):zHJ t=zIR t.kind t.text:=by
 cases hi:zIR t.kind t.text
 ·cases ha:zHJ t
  ·rfl
  ·exfalso
   simp only[zHJ,Bool.and_eq_true,beq_iff_eq] at ha
   obtain⟨h1,h2,h3,h4⟩:=ha
   have h4':((zA9 t.text).1.headD ⟨0,0,ByteArray.empty⟩).text=t.text:=by
    rw[ByteArray.toList_eq,ByteArray.toList_eq] at h4
    exact ByteArray.ext (Array.toList_inj.1 h4)
   generalize hs:t.text=s at *
   by_cases hbig:4000<s.size
   ·unfold zA9 at h1;rw[if_pos hbig] at h1;exact absurd h1 (by decide)
   ·unfold zA9 at h1 h2 h3 h4'
    rw[if_neg hbig] at h1 h2 h3 h4'
    by_cases hsk:zAT false s.data.toList 0<s.size
    ·by_cases he:zCk (zAt s (zAT false s.data.toList 0)).kind (zAt s (zAT false s.data.toList 0)).text=0
     ·rw[zDM _ s 0 _ [] rfl hsk he] at h1 h2 h3 h4'
      obtain⟨r,hr⟩:=zJz _ s _ _ h1
      rw[hr] at h3 h4'
      simp only[List.nil_append,List.cons_append,List.headD_cons] at h3 h4'
      have hkd:=zF3 s _ he
      have hl:zAT false s.data.toList 0<s.data.toList.length:=by rw[zEv];exact hsk
      have hle:=(zJD _ _ hl).2
      rw[zEv] at hle
      have hsz:(zAt s (zAT false s.data.toList 0)).text.size=zB8 s.data.toList (zAT false s.data.toList 0) - zAT false s.data.toList 0:=by
       unfold zAt;rw[if_neg hkd];exact zCV _ _ _ hle
      rw[h4'] at hsz
      have hz:zAT false s.data.toList 0=0:=by omega
      rw[hz] at hsz h3 h4' he hkd
      have hk3:(zB5 s.data.toList 0:Int)=t.kind:=by rw[←h3];unfold zAt;rw[if_neg hkd]
      have:zIR t.kind s=true:=(zHK _ _).2 ⟨by omega,by omega,by rw[←hk3];omega,hk3,by omega,by rw[h3,h4'] at he;exact he⟩
      rw[this] at hi;cases hi
     ·rw[zE8 _ s 0 _ [] rfl hsk he] at h1;exact he h1
    ·rw[zDr _ s 0 [] hsk] at h2;simp at h2
 ·have h1:=zGe _ _ hi
  unfold zHJ
  rw[h1];simp
structure MVar where
 name:ByteArray
 lo:Int
 hi:Int
structure MLit where
 var:Int
 op:Int
 n:Int
structure MCon where
 kind:Int
 vars:List Int
 consts:List Int
 n:Int
 rows:List (List Int)
 lits:List MLit
structure Mod where
 vars:List MVar
 cons:List MCon
 goal:Int
 var:Int
def zE9 (s:ByteArray):Bool :=
 (s.toList==[118,97,114]) || ((s.toList==[99,111,110]) || ((s.toList==[115,111,108,118,101]) || ((s.toList==[108,101]) || ((s.toList==[101,113]) || ((s.toList==[110,101]) || ((s.toList==[100,105,102,102,101,114]) || ((s.toList==[101,108,101,109,101,110,116]) || ((s.toList==[116,97,98,108,101]) || ((s.toList==[116,105,109,101,115]) || ((s.toList==[109,97,120]) || ((s.toList==[99,108,97,117,115,101]) || ((s.toList==[105,102,102]) || ((s.toList==[97,110,121]) || ((s.toList==[108,101,97,115,116]) || (s.toList==[109,111,115,116])))))))))))))))
def zBm (s:ByteArray):Bool:=zIR 1 s&&!zE9 s
def inB (n most:Int):Bool:=decide (-most≤n)&&decide (n≤most)
def zBJ (v n:Int):Bool:=decide (0≤v)&&decide (v<n)
def zAM (n:Int):Bool:=inB n 1000
def varE (vs:List MVar) (v:MVar):Int :=
 if zBm v.name then
  if vs.any (fun u=>u.name.toList==v.name.toList) then 6
  else if inB v.lo 50&&(inB v.hi 50&&!decide (v.hi<v.lo)) then (if 6<v.hi - v.lo+1 then 2 else 0) else 3
 else 1
def zAe:List Int→Int
 | []=>0
 | e :: r=>if e=0 then zAe r else e
def zL9 (vs:List MVar):Int:=zAe ((List.range vs.length).map fun i=>varE (vs.take i) (vs.getD i ⟨ByteArray.empty,0,0⟩))
def zFA (c:MCon):Bool:=decide (4<c.vars.length) || (decide (4<c.lits.length) || (decide (8<c.consts.length) || decide (20<c.rows.length)))
def zB9 (c:MCon):Bool :=
 if c.kind=1∨c.kind=2∨c.kind=3 then decide (1≤c.vars.length)&&(decide (c.consts.length=c.vars.length)&&decide (c.rows.length+c.lits.length=0))
 else if c.n≠0 then false
 else if c.kind=4 then decide (1≤c.vars.length)&&decide (c.consts.length+c.rows.length+c.lits.length=0)
 else if c.kind=5 then decide (c.vars.length=2)&&(decide (1≤c.consts.length)&&decide (c.rows.length+c.lits.length=0))
 else if c.kind=6 then decide (1≤c.vars.length)&&(decide (c.consts.length+c.lits.length=0)&&c.rows.all fun r=>decide (r.length=c.vars.length))
 else if c.kind=7 then decide (c.vars.length=3)&&decide (c.consts.length+c.rows.length+c.lits.length=0)
 else if c.kind=8 then decide (2≤c.vars.length)&&decide (c.consts.length+c.rows.length+c.lits.length=0)
 else if c.kind=9 then decide (c.vars.length+c.consts.length+c.rows.length=0)
 else if c.kind=10 then decide (c.vars.length=1)&&(decide (c.lits.length=1)&&decide (c.consts.length+c.rows.length=0))
 else false
def zFs (c:MCon) (n:Int):Bool:=c.vars.all (fun v=>zBJ v n)&&c.lits.all (fun l=>zBJ l.var n)
def zCd (c:MCon):Bool:=c.consts.all zAM&&(zAM c.n&&c.rows.all fun r=>r.all zAM)
def zKt (ls:List MLit):Int :=
 if ls.all (fun l=>decide (1≤l.op)&&decide (l.op≤4)) then (if ls.all (fun l=>zAM l.n) then 0 else 3) else 7
def conE (n:Int) (c:MCon):Int :=
 if 1≤c.kind∧c.kind≤10 then (if zFA c then 2 else if zB9 c then (if zFs c n then (if zCd c then zKt c.lits else 3) else 5) else 1) else 7
def zMA (m:Mod):Int:=zAe (m.cons.map (conE m.vars.length))
def zIS (m:Mod):Int :=
 if m.goal=0 then (if m.var=0 then 0 else 1) else if m.goal=1∨m.goal=2 then (if zBJ m.var m.vars.length then 0 else 5) else 7
def zAP (m:Mod):Int :=
 if m.vars.length=0 then 1 else if 6<m.vars.length∨8<m.cons.length then 2
 else if zL9 m.vars=0 then (if zMA m=0 then zIS m else zMA m) else zL9 m.vars
theorem zDt (a b:List Int):zAe (a++b)=if zAe a=0 then zAe b else zAe a:=by
 induction a with
 | nil=>simp[zAe]
 | cons e r ih =>
   simp only[List.cons_append,zAe]
   by_cases h:e=0
   ·simp only[h,if_true];exact ih
   ·simp only[h,if_false]
theorem zDN (l:List Int) (k:Nat) (e:Int) (h0:zAe (l.take k)=0) (hk:l[k]? = some e) (he:e≠0):zAe l=e:=by
 have hs:l=l.take k++l.drop k:=(List.take_append_drop k l).symm
 rw[hs,zDt,if_pos h0]
 have hlt:=(List.getElem?_eq_some_iff.1 hk).1
 rw[List.drop_eq_getElem_cons hlt]
 have:l[k]=e:=by rw[List.getElem?_eq_getElem hlt] at hk;exact Option.some.inj hk
 rw[this,zAe,if_neg he]
theorem zCv (l:List Int) (k:Nat) (h0:zAe (l.take k)=0) (hk:l[k]? = some 0):zAe (l.take (k+1))=0:=by
 rw[List.take_add_one,hk,zDt,if_pos h0];rfl
theorem zDO (l:List Int) (h:zAe l=0):∀e∈l,e=0:=by
 induction l with
 | nil=>intro e he;cases he
 | cons a r ih =>
   unfold zAe at h
   by_cases h0:a=0
   ·rw[if_pos h0] at h
    intro e he
    rcases List.mem_cons.1 he with rfl | he
    ·exact h0
    ·exact ih h e he
   ·rw[if_neg h0] at h;exact absurd h h0
theorem zAo (m:Mod) (h:zAP m=0):1≤m.vars.length∧m.vars.length≤6∧m.cons.length≤8∧zL9 m.vars=0∧zMA m=0∧zIS m=0:=by
 unfold zAP at h
 by_cases h0:m.vars.length=0
 ·rw[if_pos h0] at h;cases h
 ·rw[if_neg h0] at h
  by_cases h1:6<m.vars.length∨8<m.cons.length
  ·rw[if_pos h1] at h;cases h
  ·rw[if_neg h1] at h
   by_cases h2:zL9 m.vars=0
   ·rw[if_pos h2] at h
    by_cases h3:zMA m=0
    ·rw[if_pos h3] at h;exact⟨by omega,by omega,by omega,h2,h3,h⟩
    ·rw[if_neg h3] at h;exact absurd h h3
   ·rw[if_neg h2] at h;exact absurd h h2
theorem zNJ (vs:List MVar) (v:MVar) (h:varE vs v=0):-50≤v.lo∧v.hi≤50∧v.lo≤v.hi∧v.hi - v.lo+1≤6:=by
 unfold varE at h
 split at h
 ·split at h
  ·cases h
  ·split at h
   ·rename_i h1
    simp only[inB,Bool.and_eq_true,decide_eq_true_eq,Bool.not_eq_true',decide_eq_false_iff_not] at h1
    split at h
    ·cases h
    ·omega
   ·cases h
 ·cases h
theorem zJI (m:Mod) (h:zAP m=0) (i:Nat) (v:MVar) (hv:m.vars[i]? = some v):-50≤v.lo∧v.hi≤50∧v.lo≤v.hi∧v.hi - v.lo+1≤6:=by
 have h1:=(zAo m h).2.2.2.1
 have h2:=zDO _ h1 (varE (m.vars.take i) v) (by
  have hi:i<m.vars.length:=(List.getElem?_eq_some_iff.1 hv).1
  refine List.mem_map.2 ⟨i,List.mem_range.2 hi,?_⟩
  rw[List.getD_eq_getElem?_getD,hv];rfl)
 exact zNJ _ _ h2
theorem zHL (m:Mod) (h:zAP m=0) (i:Nat) (c:MCon) (hc:m.cons[i]? = some c):conE m.vars.length c=0:=by
 have h1:=(zAo m h).2.2.2.2.1
 exact zDO _ h1 _ (List.mem_map.2 ⟨c,List.mem_of_getElem? hc,rfl⟩)
def litV (x:Int) (l:MLit):Bool :=
 if l.op=1 then decide (x≤l.n) else if l.op=2 then decide (l.n≤x) else if l.op=3 then x==l.n else if l.op=4 then x != l.n else false
end Go.Proofs.YtndcpnlaadikoaaGreatDoor
