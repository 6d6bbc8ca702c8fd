/- What the proof leans on, part 2. -/
import Derived.Test.YtdjbejlbmaiocafGreatDoorPartAa
namespace Go.Proofs.YtdjbejlbmaiocafGreatDoor
open Go.RowKit
set_option maxHeartbeats 800000 in
theorem zHM (s:ByteArray) (k:Nat) (hk:k≤s.size) (hs:s.size≤maxLen) (w:World) :
 Calls Tryz.prog 258 #[.string s,.int .i64 k] w fun e w'=>e=.returned (.int .i64 (zAL false s.data.toList k))∧w'=w:=by
 have HS:Hid (s.size≤maxLen):=hs
 unfold maxLen at hs
 go_enter Tryz.func258,Tryz.ntmps258
 go_wp2
 go_loop [1] (fun i=>∃m:Nat,m≤s.size∧i=.int .i64 m∧Hid (zAL false s.data.toList m=zAL false s.data.toList k)) (fun i=>s.size - (intOf i).toNat)
 case atStart=>exact⟨k,hk,rfl,rfl⟩
 case round =>
  obtain⟨m,hm,rfl,hr⟩:=hrel
  by_cases hlt:m<s.size
  ·have hl:m<s.data.toList.length:=by simpa using hlt
   have hget:=zCE s m hlt hl
   cases h1:((s[m].toNat:Int)==32)
   ·cases h2:((s[m].toNat:Int)==9)
    ·cases h3:((s[m].toNat:Int)==10)
     ·cases h4:((s[m].toNat:Int)==37)
      ·have HE:Hid (zAL false s.data.toList m=m):=zD7 _ m hl (by rw[hget];unfold isB;rw[h1,h2,h3];rfl) (by rw[hget];exact h4)
       clear hget
       go_wp2
       go_ret
       exact⟨zAF (by rw[←hr.out,HE.out]),rfl⟩
      ·have HE:Hid (zAL false s.data.toList m=zAL false s.data.toList (zAb zBC s.data.toList m)):=zEq _ m hl (by rw[hget];simpa using h4)
       have hg:m<zAb zBC s.data.toList m:=zFT _ _ _ hl (by rw[hget];unfold zBC;rw[bne,h3];rfl)
       have hle:zAb zBC s.data.toList m≤s.size:=by simpa using (zBs zBC _ _ (Nat.le_of_lt hl)).2
       clear hget
       go_wp2_with fail
       refine (zLc s m hm HS.out _).mono ?_
       rintro e w' ⟨rfl,rfl⟩
       go_wp2
       go_round
       case rel=>exact⟨_,hle,rfl,HE.out▸hr.out⟩
       case measure=>simp[intOf];omega
     ·have HE:Hid (zAL false s.data.toList m=zAL false s.data.toList (m+1)):=zCO _ m hl (by rw[hget];unfold isB;rw[h3];simp)
      clear hget
      go_wp2
      go_round
      case rel=>exact⟨m+1,by omega,by go_num,HE.out▸hr.out⟩
      case measure=>simp[intOf];omega
    ·have HE:Hid (zAL false s.data.toList m=zAL false s.data.toList (m+1)):=zCO _ m hl (by rw[hget];unfold isB;rw[h2];simp)
     clear hget
     go_wp2
     go_round
     case rel=>exact⟨m+1,by omega,by go_num,HE.out▸hr.out⟩
     case measure=>simp[intOf];omega
   ·have HE:Hid (zAL false s.data.toList m=zAL false s.data.toList (m+1)):=zCO _ m hl (by rw[hget];unfold isB;rw[h1];simp)
    clear hget
    go_wp2
    go_round
    case rel=>exact⟨m+1,by omega,by go_num,HE.out▸hr.out⟩
    case measure=>simp[intOf];omega
  ·have HE:Hid (zAL false s.data.toList m=m):=zEz _ _ m (by simpa using hlt)
   go_wp2
   go_ret
   exact⟨zAF (by rw[←hr.out,HE.out]),rfl⟩
set_option maxHeartbeats 400000 in
theorem zFt (kd a:Int) (t:ByteArray) (hs:t.size≤maxLen) (w:World) :
 Calls Tryz.prog 260 #[.agg #[.int .i64 kd,.int .i64 a,.string t]] w fun e w'=>e=.returned (.int .i64 (zB6 kd t))∧Below w.heap.size w w':=by
 unfold maxLen at hs
 by_cases h0:0<t.size
 ·have hb:zB4 t.data.toList 0=t[0]:=by rw[zB5 _ _ (by simpa using h0)];exact zCE t 0 h0 _
  go_enter Tryz.func260,Tryz.ntmps260
  go_wp2
  all_goals
   go_ret
   refine⟨zAF ?_,(Below.refl _ _).alloc (Nat.le_refl _) _⟩
   simp only[beq_iff_eq,beq_eq_false_iff_ne] at *
   unfold zB6
   repeat' split
   all_goals first | rfl | omega | (rw[hb] at *;omega)
 ·go_enter Tryz.func260,Tryz.ntmps260
  go_wp2
  all_goals
   go_ret
   refine⟨zAF ?_,(Below.refl _ _).alloc (Nat.le_refl _) _⟩
   simp only[beq_iff_eq,beq_eq_false_iff_ne] at *
   unfold zB6
   repeat' split
   all_goals first | rfl | omega
theorem zFu (s:ByteArray) (k:Nat):(s.extract k s.size).data.toList=s.data.toList.drop k:=by
 rw[ByteArray.data_extract,Array.toList_extract]
 simp only[List.extract_eq_take_drop]
 exact List.take_of_length_le (by simp)
set_option maxHeartbeats 400000 in
theorem zGc (s:ByteArray) (k:Nat) (hk:k<s.size) (hs:s.size≤maxLen) (w:World) (hL:isL s[k]=true) :
 Calls Tryz.prog 259 #[.string s,.int .i64 k] w fun e w'=>e=.returned (.agg #[.int .i64 1,.int .i64 k,.string (s.extract k (zAb isW s.data.toList k))])∧Below w.heap.size w w':=by
 have HS:Hid (s.size≤maxLen):=hs
 unfold maxLen at hs
 have hl:k<s.data.toList.length:=by simpa using hk
 have hle:k≤zAb isW s.data.toList k:=(zBs isW _ _ (Nat.le_of_lt hl)).1
 have hle2:zAb isW s.data.toList k≤s.size:=by simpa using (zBs isW _ _ (Nat.le_of_lt hl)).2
 have HL:Hid (isL s[k]=true):=hL
 clear hL
 go_enter Tryz.func259,Tryz.ntmps259
 go_wp2_with fail
 refine (zB7 _ _).mono ?_
 rintro e w' ⟨rfl,rfl⟩
 rw[HL.out]
 go_wp2_with fail
 refine (zJw s k (by omega) HS.out _).mono ?_
 rintro e w' ⟨rfl,rfl⟩
 go_wp2
 exact bodyPost_ret (v:=.agg #[.int .i64 1,.int .i64 k,.string (s.extract k (zAb isW s.data.toList k))]) (by simp[results,Tryz.results259,go_sem]) rfl ⟨rfl,(Below.refl _ _).alloc (Nat.le_refl _) _⟩
set_option maxHeartbeats 400000 in
theorem zHm (s:ByteArray) (k:Nat) (hk:k<s.size) (hs:s.size≤maxLen) (w:World) (hL:isL s[k]=false) (hD:isD s[k]=true) :
 Calls Tryz.prog 259 #[.string s,.int .i64 k] w fun e w'=>e=.returned (.agg #[.int .i64 2,.int .i64 k,.string (s.extract k (zAb isD s.data.toList k))])∧Below w.heap.size w w':=by
 have HS:Hid (s.size≤maxLen):=hs
 unfold maxLen at hs
 have hl:k<s.data.toList.length:=by simpa using hk
 have hle:k≤zAb isD s.data.toList k:=(zBs isD _ _ (Nat.le_of_lt hl)).1
 have hle2:zAb isD s.data.toList k≤s.size:=by simpa using (zBs isD _ _ (Nat.le_of_lt hl)).2
 have HL:Hid (isL s[k]=false):=hL
 have HD:Hid (isD s[k]=true):=hD
 clear hL hD
 go_enter Tryz.func259,Tryz.ntmps259
 go_wp2_with fail
 refine (zB7 _ _).mono ?_
 rintro e w' ⟨rfl,rfl⟩
 rw[HL.out]
 go_wp2_with fail
 refine (zB8 _ _).mono ?_
 rintro e w' ⟨rfl,rfl⟩
 rw[HD.out]
 go_wp2_with fail
 refine (zId s k (by omega) HS.out _).mono ?_
 rintro e w' ⟨rfl,rfl⟩
 go_wp2
 exact bodyPost_ret (v:=.agg #[.int .i64 2,.int .i64 k,.string (s.extract k (zAb isD s.data.toList k))]) (by simp[results,Tryz.results259,go_sem]) rfl ⟨rfl,(Below.refl _ _).alloc (Nat.le_refl _) _⟩
set_option maxHeartbeats 400000 in
theorem zIe (s:ByteArray) (k g:Nat) (hk:k<s.size) (hs:s.size≤maxLen) (w:World) (hL:isL s[k]=false) (hD:isD s[k]=false)
 (hg:zCs (s.data.toList.drop k)=g) (h0:0<g) :
 Calls Tryz.prog 259 #[.string s,.int .i64 k] w fun e w'=>e=.returned (.agg #[.int .i64 3,.int .i64 k,.string (s.extract k (k+g))])∧Below w.heap.size w w':=by
 have hsz:(s.extract k s.size).size=s.size - k:=zBt _ _ _ (Nat.le_refl _)
 have HZ:Hid (0<(s.extract k s.size).size∧(s.extract k s.size).size≤maxLen):=⟨by omega,by omega⟩
 unfold maxLen at hs
 have hle:k+g≤s.size:=by have:=zHI (s.data.toList.drop k) (by simp;omega);simp at this;omega
 have HL:Hid (isL s[k]=false):=hL
 have HD:Hid (isD s[k]=false):=hD
 have HG:Hid (zCs (s.extract k s.size).data.toList=g):=by rw[zFu];exact hg
 clear hL hD hg hsz
 go_enter Tryz.func259,Tryz.ntmps259
 go_wp2_with fail
 refine (zB7 _ _).mono ?_
 rintro e w' ⟨rfl,rfl⟩
 rw[HL.out]
 go_wp2_with fail
 refine (zB8 _ _).mono ?_
 rintro e w' ⟨rfl,rfl⟩
 rw[HD.out]
 go_wp2_with fail
 refine (zHL _ HZ.out.1 HZ.out.2 _).mono ?_
 rintro e w' ⟨rfl,rfl⟩
 rw[HG.out]
 go_wp2
 exact bodyPost_ret (v:=.agg #[.int .i64 3,.int .i64 k,.string (s.extract k (k+g))]) (by simp[results,Tryz.results259,go_sem]) rfl ⟨rfl,(Below.refl _ _).alloc (Nat.le_refl _) _⟩
set_option maxHeartbeats 400000 in
theorem zIf (s:ByteArray) (k:Nat) (hk:k<s.size) (hs:s.size≤maxLen) (w:World) (hL:isL s[k]=false) (hD:isD s[k]=false)
 (hg:zCs (s.data.toList.drop k)=0) :
 Calls Tryz.prog 259 #[.string s,.int .i64 k] w fun e w'=>e=.returned (.agg #[.int .i64 0,.int .i64 0,.string ByteArray.empty])∧Below w.heap.size w w':=by
 have hsz:(s.extract k s.size).size=s.size - k:=zBt _ _ _ (Nat.le_refl _)
 have HZ:Hid (0<(s.extract k s.size).size∧(s.extract k s.size).size≤maxLen):=⟨by omega,by omega⟩
 unfold maxLen at hs
 have HL:Hid (isL s[k]=false):=hL
 have HD:Hid (isD s[k]=false):=hD
 have HG:Hid (zCs (s.extract k s.size).data.toList=0):=by rw[zFu];exact hg
 clear hL hD hg hsz
 go_enter Tryz.func259,Tryz.ntmps259
 go_wp2_with fail
 refine (zB7 _ _).mono ?_
 rintro e w' ⟨rfl,rfl⟩
 rw[HL.out]
 go_wp2_with fail
 refine (zB8 _ _).mono ?_
 rintro e w' ⟨rfl,rfl⟩
 rw[HD.out]
 go_wp2_with fail
 refine (zHL _ HZ.out.1 HZ.out.2 _).mono ?_
 rintro e w' ⟨rfl,rfl⟩
 rw[HG.out]
 go_wp2
 exact bodyPost_ret (v:=.agg #[.int .i64 0,.int .i64 0,.string ByteArray.empty]) (by simp[results,Tryz.results259,go_sem];rfl) rfl ⟨rfl,(Below.refl _ _).alloc (Nat.le_refl _) _⟩
def tokV (t:Tok):Value:=.agg #[.int .i64 t.kind,.int .i64 t.place,.string t.text]
theorem zHN (s:ByteArray) (k:Nat) (hk:k<s.size) (hs:s.size≤maxLen) (w:World) :
 Calls Tryz.prog 259 #[.string s,.int .i64 k] w fun e w'=>e=.returned (tokV (zAm s k))∧Below w.heap.size w w':=by
 have hl:k<s.data.toList.length:=by simpa using hk
 have hb:zB4 s.data.toList k=s[k]:=by rw[zB5 _ _ hl];exact zCE s k hk _
 cases hL:isL s[k]
 ·cases hD:isD s[k]
  ·by_cases hg:zCs (s.data.toList.drop k)=0
   ·have e1:zAm s k=⟨0,0,ByteArray.empty⟩:=by unfold zAm zBc;rw[hb,hL,hD,hg];rfl
    rw[e1];exact zIf s k hk hs w hL hD hg
   ·have e1:zAm s k=⟨3,k,s.extract k (k+zCs (s.data.toList.drop k))⟩:=by
     unfold zAm zBc zBe;rw[hb,hL,hD];simp[hg]
    rw[e1];exact zIe s k _ hk hs w hL hD rfl (by omega)
  ·have e1:zAm s k=⟨2,k,s.extract k (zAb isD s.data.toList k)⟩:=by
    unfold zAm zBc zBe;rw[hb,hL,hD];simp
   rw[e1];exact zHm s k hk hs w hL hD
 ·have e1:zAm s k=⟨1,k,s.extract k (zAb isW s.data.toList k)⟩:=by
   unfold zAm zBc zBe;rw[hb,hL];simp
  rw[e1];exact zGc s k hk hs w hL
theorem Tryz.infoTok:(Tryz.prog.info? 253).map (fun i=>(i.zero,i.size,i.bytes))=some (some (.agg #[.int .i64 0,.int .i64 0,.string ByteArray.empty]),3,32):=by kernel_rfl
def zAx (t:Tok):List Value:=[.int .i64 t.kind,.int .i64 t.place,.string t.text]
def zAu (l:List Tok):List Value:=l.flatMap zAx
theorem zAD {w w':World} {base:Nat} {e:TypeId} {size:Nat} {v:Value} {n:Nat} {xs:List Value} (h:w.ownsRow base e size v n xs) (hb:Below w.heap.size w w'):w'.ownsRow base e size v n xs:=by
 refine⟨h.1,?_⟩
 rcases h.2 with hn | ⟨g,cap,cur,hv,hg,hh,r⟩
 ·exact .inl hn
 ·exact .inr ⟨g,cap,cur,hv,hg,by rw[hb.block g (Array.getElem?_eq_some_iff.1 hh).1];exact hh,r⟩
theorem zHn (w:World) (t:Tok):∀(j:Nat) (u:Value),(zAx t)[j]? = some u →
 (w.alloc (.cells #[.int .i64 t.kind,.int .i64 t.place,.string t.text] 253)).cell? ((⟨w.heap.size,0,none⟩:Addr).add j)=some u:=by
 intro j u hj
 match j,hj with
 | 0,hj=>simp[zAx] at hj;subst hj;simp[Addr.add]
 | 1,hj=>simp[zAx] at hj;subst hj;simp[Addr.add]
 | 2,hj=>simp[zAx] at hj;subst hj;simp[Addr.add]
theorem zGd (t:Tok):∀(u:Value),u∈zAx t→u.oneCell'=true:=by
 intro u hu
 simp only[zAx,List.mem_cons,List.not_mem_nil,or_false] at hu
 rcases hu with rfl | rfl | rfl <;> rfl
theorem zHo (s:ByteArray) (j:Nat):(zAm s j).text.size≤s.size:=by
 unfold zAm
 split
 ·simp
 ·show (s.extract _ _).size≤_
  rw[ByteArray.size_extract];omega
set_option maxHeartbeats 1000000 in
set_option maxRecDepth 100000 in
theorem zJx (s:ByteArray) (hs:s.size≤4000) (w:World) :
 Calls Tryz.prog 229 #[.string s] w fun e w'=>∃v,e=.returned (.tuple #[v,.int .i64 (zA0 s).2.1,.int .i64 (zA0 s).2.2]) ∧
  w'.ownsRow w.heap.size 253 3 v (zA0 s).1.length (zAu (zA0 s).1)∧Below w.heap.size w w':=by
 have HS:Hid (s.size≤maxLen):=by show s.size≤maxLen;unfold maxLen;omega
 obtain⟨i0,hi,hz0,hz1,hz2⟩:=info_parts Tryz.infoTok
 obtain⟨R,hR⟩:∃R,R=zA0 s:=⟨_,rfl⟩
 rw[←hR]
 have HR:Hid (R=zCt (s.size+1) s 0 []):=by rw[hR];unfold zA0;rw[if_neg (by omega)];rfl
 clear hR
 have h0:=zFr false s.data.toList 0 (Nat.zero_le _)
 go_enter Tryz.func229,Tryz.ntmps229
 go_wp2_with fail
 refine (zHM s 0 (Nat.zero_le _) HS.out _).mono ?_
 rintro e w ⟨rfl,rfl⟩
 go_wp2_with fail
 go_loopw [5,6] (fun v i wr=>∃(k f j:Nat) (acc:List Tok),i=.int .i64 j∧Hid (zAL false s.data.toList k=j)∧Hid (R=zCt f s k acc)∧s.size<k+f∧k≤s.size∧j≤s.size∧k≤j∧acc.length≤k ∧
  wr.ownsRow w.heap.size 253 3 v acc.length (zAu acc)∧Below w.heap.size w wr) (fun _ i _=>s.size - (intOf i).toNat)
 case atStart=>exact⟨0,s.size+1,_,[],rfl,rfl,HR,by omega,by omega,by simpa using h0.2,h0.1,Nat.le_refl _,World.ownsRow_nil _ _ _ _,Below.refl _ _⟩
 case round =>
  obtain⟨k,f,j,acc,rfl,hj,hR,hf,hk,hjs,hkj,hacc,hown,hbw⟩:=hrel
  by_cases hlt:j<s.size
  ·have hl:j<s.data.toList.length:=by simpa using hlt
   obtain⟨f,rfl⟩:∃f',f=f'+1:=⟨f - 1,by omega⟩
   obtain⟨t,ht⟩:∃t,t=zAm s j:=⟨_,rfl⟩
   have HT:Hid (t=zAm s j):=ht
   have htx:t.text.size≤s.size:=by rw[ht];exact zHo s j
   have HTS:Hid (t.text.size≤maxLen):=Nat.le_trans htx HS.out
   have hsz:=hbw.size
   clear ht
   by_cases he:zB6 t.kind t.text=0
   ·have HR2:Hid (R=zCt f s (zBe s.data.toList j) (acc++[t])):=by rw[hR.out,HT.out];exact zCe f s k j acc hj.out hlt (by rw[←HT.out];exact he)
    have HER:Hid (zB6 t.kind t.text=0):=he
    have hkd:zBc s.data.toList j≠0:=zE0 s j (by rw[←HT.out];exact he)
    have hen:j<zBe s.data.toList j:=zJv _ j hl hkd
    have hen2:zBe s.data.toList j≤s.size:=by simpa using (zHJ _ j hl).2
    have HTE:Hid (t.text.size=zBe s.data.toList j - j):=by
     rw[HT.out];unfold zAm;rw[if_neg hkd];exact zBt _ _ _ hen2
    clear he hkd
    go_wp2_with fail
    refine (zHN s j hlt HS.out _).mono ?_
    rintro e w1 ⟨rfl,hb1⟩
    rw[←HT.out];unfold tokV
    have hs1:=hb1.size
    go_wp2_with fail
    refine (zFt _ _ _ HTS.out _).mono ?_
    rintro e w2 ⟨rfl,hb2⟩
    rw[HER.out]
    have hs2:w1.heap.size+1≤w2.heap.size:=by simpa using hb2.size
    have hc0:w2.cell? ⟨w1.heap.size,0,none⟩=some (.int .i64 t.kind):=(hb2.cell (by simp)).trans (by simp)
    have hc1:w2.cell? ⟨w1.heap.size,1,none⟩=some (.int .i64 t.place):=(hb2.cell (by simp)).trans (by simp)
    have hc2:w2.cell? ⟨w1.heap.size,2,none⟩=some (.string t.text):=(hb2.cell (by simp)).trans (by simp)
    have hown2:w2.ownsRow w.heap.size 253 3 u5 acc.length (zAu acc):=zAD ((zAD hown hb1).alloc _) hb2
    go_wp2_with (at_builtin;refine wpList_append_own _ rfl _ _ 249 rfl w.heap.size 253 i0 (.agg #[.int .i64 0,.int .i64 0,.string ByteArray.empty]) 3 32 Tryz.underlying249 hi hz0 hz1 hz2 rfl (by decide) _ _ _ rfl (hown2.alloc _) ⟨w2.heap.size,0,none⟩ 1 1 (zAx t) rfl rfl ?c1 ?c2 ?c3 ?c4 ?c5 ?_)
    case c1=>exact zHn w2 t
    case c2=>exact zGd t
    case c3=>unfold maxLen;omega
    case c4=>omega
    case c5=>simp;omega
    intro v3 w3 hown3 hgrow _
    have hc3:w3.cell? ⟨w1.heap.size,2,none⟩=some (.string t.text):=hgrow.cell ((World.cell?_alloc_past _ _ _ (by omega)).trans hc2) (by intro h;have hq:=(hown.lt _ h.symm).2;simp only at hq;omega)
    have hb3:Below w.heap.size w w3:=((((hbw.trans (hb1.mono hsz)).alloc (by omega) _).trans (hb2.mono (by simp;omega))).alloc (by omega) _).grown hgrow (by simp;omega) (fun b h=>(hown.lt _ h).1)
    have hown4:w3.ownsRow w.heap.size 253 3 v3 (acc++[t]).length (zAu (acc++[t])):=by
     have e1:zAu (acc++[t])=zAu acc++zAx t:=by simp[zAu]
     rw[e1,List.length_append];exact hown3
    clear hown3 hgrow hown2 hc0 hc1 hc2 hb2 hb1 hown hbw hs1 hs2 hsz
    have hjt:(j:Int)+(t.text.size:Int)=((zBe s.data.toList j:Nat):Int):=by rw[HTE.out];omega
    have HJT:Hid ((j:Int)+(t.text.size:Int)=((zBe s.data.toList j:Nat):Int)):=hjt
    clear hjt
    go_wp2_with fail
    rw[HJT.out]
    refine (zHM s (zBe s.data.toList j) hen2 HS.out _).mono ?_
    rintro e w3 ⟨rfl,rfl⟩
    have h5:=zFr false s.data.toList (zBe s.data.toList j) (by simpa using hen2)
    have h51:=h5.1
    have h52:zAL false s.data.toList (zBe s.data.toList j)≤s.size:=by simpa using h5.2
    clear h5
    go_wp2
    go_roundw
    case rel=>exact⟨zBe s.data.toList j,f,_,acc++[t],rfl,rfl,HR2,by omega,hen2,h52,h51,by simp;omega,hown4,hb3⟩
    case measure=>simp[intOf];omega
   ·have HR2:Hid (R=([],j,zB6 t.kind t.text)):=by rw[hR.out,HT.out];exact zD8 f s k j acc hj.out hlt (by rw[←HT.out];exact he)
    have he':(zB6 t.kind t.text != 0)=true:=by simpa using he
    clear he
    obtain⟨er,HER⟩:∃er,Hid (zB6 t.kind t.text=er):=⟨_,rfl⟩
    rw[HER.out] at HR2 he'
    go_wp2_with fail
    refine (zHN s j hlt HS.out _).mono ?_
    rintro e w1 ⟨rfl,hb1⟩
    rw[←HT.out];unfold tokV
    have hs1:=hb1.size
    go_wp2_with fail
    refine (zFt _ _ _ HTS.out _).mono ?_
    rintro e w2 ⟨rfl,hb2⟩
    rw[HER.out]
    go_wp2
    go_ret3
    rw[HR2.out]
    exact⟨_,rfl,World.ownsRow_nil _ _ _ _,((hbw.trans (hb1.mono hsz)).alloc (by omega) _).trans (hb2.mono (by simp;omega))⟩
  ·have HR2:Hid (R=(acc,0,0)):=by rw[hR.out];exact zC6 f s k acc (by rw[hj.out];exact hlt)
   go_wp2
   go_ret3
   rw[HR2.out]
   exact⟨_,rfl,hown,hbw⟩
end Go.Proofs.YtdjbejlbmaiocafGreatDoor
