/- What the proof leans on, part 32. -/
import Derived.Test.YtndcpnlaadikoaaGreatDoorPartBe
import Derived.Test.YtndcpnlaadikoaaGreatDoorPartAt
namespace Go.Proofs.YtndcpnlaadikoaaGreatDoor
open Go.RowKit
theorem zDU {α:Type} (l:List α) (p:α→Bool) (k:Nat) (z:α) (h:l[k]? = some z):(l.take (k+1)).any p=((l.take k).any p || p z):=by
 rw[List.take_add_one,h,List.any_append];simp
set_option maxHeartbeats 3200000 in
set_option maxRecDepth 100000 in
theorem zLk (s:Sto) (l:MLit) (h0:0≤l.var) (h1:l.var<(s.length:Int)) (v:Value) (w:World) (hv:RArg w v s) :
 Calls Tryz.prog 235 #[v,.agg #[.int .i64 l.var,.int .i64 l.op,.int .i64 l.n]] w fun e w'=>(∃z:Int,e=.returned (.int .i64 z)∧decide (0≤z)=zBE s l)∧Below w.heap.size w w':=by
 obtain⟨var,op,n⟩:=l
 dsimp only at h0 h1 ⊢
 obtain⟨x,rfl⟩:∃x:Nat,var=(x:Int):=⟨var.toNat,by omega⟩
 have hxs:x<s.length:=by omega
 obtain⟨r,hr⟩:∃r,s[x]? = some r:=⟨s[x],by simp[hxs]⟩
 have HLV:Hid (zBE s ⟨(x:Int),op,n⟩=r.any fun z=>litV z ⟨(x:Int),op,n⟩):=by
  show _=_
  unfold zBE zHQ
  rw[Int.toNat_natCast,List.getD_eq_getElem?_getD,hr];rfl
 rw[HLV.out]
 obtain⟨a,ca,rfl,hma,hrr⟩:=hv
 unfold maxLen at hma
 obtain⟨hma1,hma2⟩:=hma
 obtain⟨ob,oo,xv,hob,hol,ocl,hix⟩:=hrr x r hr
 subst hob
 obtain⟨ax,cx,rfl,hmx,hxr⟩:=hix
 unfold maxLen at hmx
 obtain⟨hmx1,hmx2⟩:=hmx
 obtain⟨f,hf⟩:∃f:Int→Bool,(fun z=>litV z ⟨(x:Int),op,n⟩)=f:=⟨_,rfl⟩
 have HFF:Hid (∀z,litV z ⟨(x:Int),op,n⟩=f z):=fun z=>by rw[←hf]
 rw[hf]
 obtain⟨R,hR⟩:∃R,r.any f=R:=⟨_,rfl⟩
 have HR:Hid (r.any f=R):=hR
 rw[hR]
 have HXR:Hid (∀(i:Nat) (z:Int),r[i]? = some z→∃b off,ax=some ⟨b,off,none⟩∧b<w.heap.size∧w.cell? ⟨b,off+i,none⟩=some (.int .i64 z)):=hxr
 have p1:(x:Int)<(s.length:Int):=by omega
 clear hr hrr hxr hf hR HLV
 go_enter Tryz.func235,Tryz.ntmps235
 go_wp2_with fail
 have HB0:=(show Hid (Below w.heap.size w _) from zAA w (.cells #[.int .i64 (x:Int),.int .i64 op,.int .i64 n] 76))
 have HN0:=(show Hid _ from heap_alloc_new w (.cells #[.int .i64 (x:Int),.int .i64 op,.int .i64 n] 76))
 obtain⟨W,hW⟩:∃W,w.alloc (.cells #[.int .i64 (x:Int),.int .i64 op,.int .i64 n] 76)=W:=⟨_,rfl⟩
 rw[hW] at HB0 HN0 ⊢
 clear hW
 have HC:Hid (∀Y,Below W.heap.size W Y→w.heap.size<Y.heap.size∧Y.cell? ⟨w.heap.size,0,none⟩=some (.int .i64 (x:Int))∧Y.cell? ⟨w.heap.size,1,none⟩=some (.int .i64 op)∧Y.cell? ⟨w.heap.size,2,none⟩=some (.int .i64 n)∧ob<Y.heap.size∧Y.cell? ⟨ob,oo+x,none⟩=some (.slice ax r.length cx)):=fun Y hY=>by
  have hN:=(hY.block _ (Array.getElem?_eq_some_iff.1 HN0.out).1).trans HN0.out
  have hl:=Nat.lt_of_lt_of_le hol HB0.out.size
  exact⟨(Array.getElem?_eq_some_iff.1 hN).1,blk9 hN 0 _ rfl,blk9 hN 1 _ rfl,blk9 hN 2 _ rfl,Nat.lt_of_lt_of_le hl hY.size,(hY.cell (p:=⟨ob,oo+x,none⟩) hl).trans ((HB0.out.cell (p:=⟨ob,oo+x,none⟩) hol).trans ocl)⟩
 clear ocl hol
 go_loopw [5,6,7] (fun y o i wr=>∃k:Nat,k≤r.length∧i=.int .i64 k∧y=.bool ((r.take k).any f)∧o=.bool ((r.take k).any fun z=>!f z)∧Below W.heap.size W wr) (fun _ _ i _=>r.length - (intOf i).toNat)
 case atStart=>exact⟨0,by omega,rfl,rfl,rfl,Below.refl _ _⟩
 case round =>
  obtain⟨k,hk,rfl,rfl,rfl,hbw⟩:=hrel
  obtain⟨c0,c1,c2,c3,c4,c5⟩:=HC.out _ hbw
  obtain⟨Y,hY⟩:∃Y,(r.take k).any f=Y:=⟨_,rfl⟩
  obtain⟨N,hN⟩:∃N,(r.take k).any (fun z=>!f z)=N:=⟨_,rfl⟩
  have HY:Hid ((r.take k).any f=Y):=hY
  have HNN:Hid ((r.take k).any (fun z=>!f z)=N):=hN
  rw[hY,hN]
  clear hY hN
  by_cases hlt:k<r.length
  ·obtain⟨z,hz⟩:∃z,r[k]? = some z:=⟨r[k],by simp[hlt]⟩
   obtain⟨bx,ox,hbx,hbl,hxc⟩:=HXR.out k z hz
   subst hbx
   have hbW:=Nat.lt_of_lt_of_le hbl HB0.out.size
   have zl:=Nat.lt_of_lt_of_le hbW hbw.size
   have zc:=(hbw.cell (p:=⟨bx,ox+k,none⟩) hbW).trans ((HB0.out.cell (p:=⟨bx,ox+k,none⟩) hbl).trans hxc)
   have HS1:Hid ((r.take (k+1)).any f=(Y || f z)):=by show _=_;rw[zDU r f k z hz,HY.out]
   have HS2:Hid ((r.take (k+1)).any (fun z=>!f z)=(N || !f z)):=by show _=_;rw[zDU r (fun z=>!f z) k z hz,HNN.out]
   have HBW:Hid (Below W.heap.size W wr):=hbw
   clear hz hxc hbl hbW hbw
   go_wp2_with fail
   go_region_held3 (fun w'=>Below wr.heap.size wr w'∧w'.cell? ⟨w.heap.size,0,none⟩=some (.int .i64 (x:Int))∧w'.cell? ⟨w.heap.size,1,none⟩=some (.int .i64 op)∧w'.cell? ⟨w.heap.size,2,none⟩=some (.int .i64 n)∧w'.cell? ⟨ob,oo+x,none⟩=some (.slice (some ⟨bx,ox,none⟩) r.length cx)∧w'.cell? ⟨bx,ox+k,none⟩=some (.int .i64 z))
    ((refine (fun (hB:Below wr.heap.size wr _)=>⟨hB,(hB.cell (p:=⟨w.heap.size,0,none⟩) c0).trans c1,(hB.cell (p:=⟨w.heap.size,1,none⟩) c0).trans c2,(hB.cell (p:=⟨w.heap.size,2,none⟩) c0).trans c3,(hB.cell (p:=⟨ob,oo+x,none⟩) c4).trans c5,(hB.cell (p:=⟨bx,ox+k,none⟩) zl).trans zc⟩:Below wr.heap.size wr _→_) ?_;first | exact (Below.refl _ _).drew | exact zAS (by assumption) hbq))
    ((go_at_call 110;refine (zEH ⟨(x:Int),op,n⟩ z _).mono ?_;rintro e w3 ⟨rfl,hbq⟩;have hB3:=zAS (by assumption) hbq))
   rw[HFF.out z]
   have HB3:Hid (Below W.heap.size W w3):=HBW.out.trans (hB3.mono HBW.out.size)
   clear c0 c1 c2 c3 c4 c5 zl zc hB3 hbq
   cases hq:f z
   ·rw[hq] at HS1 HS2
    clear hq
    go_wp2
    go_roundw
    case rel=>exact⟨k+1,by omega,by go_num,by rw[HS1.out];simp,by rw[HS2.out];simp,HB3.out⟩
    case measure=>simp[intOf];omega
   ·rw[hq] at HS1 HS2
    clear hq
    go_wp2
    go_roundw
    case rel=>exact⟨k+1,by omega,by go_num,by rw[HS1.out];simp,by rw[HS2.out];simp,HB3.out⟩
    case measure=>simp[intOf];omega
  ·have HE:Hid (R=Y):=by show _=_;rw[←HR.out,←HY.out,List.take_of_length_le (by omega)]
   have HBW:Hid (Below w.heap.size w wr):=HB0.out.trans (hbw.mono HB0.out.size)
   clear hbw
   cases Y <;> cases N
   all_goals
    go_wp2
    go_ret
    exact⟨⟨_,rfl,by rw[HE.out];rfl⟩,HBW.out⟩
end Go.Proofs.YtndcpnlaadikoaaGreatDoor
