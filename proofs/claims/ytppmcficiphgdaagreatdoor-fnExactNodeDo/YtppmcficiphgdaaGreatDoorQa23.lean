/-
  NdDelF, NdHear, MgOf.
-/
import Derived.Test.YtppmcficiphgdaaGreatDoorQa18
import Derived.Test.YtppmcficiphgdaaGreatDoorQa22
import Derived.Test.YtppmcficiphgdaaGreatDoorQaZ3
import Derived.Test.YtppmcficiphgdaaGreatDoorQa1
import Derived.Test.YtppmcficiphgdaaGreatDoorQa15
import Derived.Test.YtppmcficiphgdaaGreatDoorQa13
namespace Go.Proofs.YtppmcficiphgdaaGreatDoor
set_option maxHeartbeats 4000000
set_option maxRecDepth 100000
open Go.RowKit
open Mth
abbrev sntv (s:Snt):Value:= .agg #[.int .i64 s.i,.int .i64 s.t,.string s.k,.int .i64 s.n]
theorem isAcked (s:Snt) (B:Nat) (m:Mg) (w:World) (hB:msgB w B m):
 Calls Tryz.prog 170 #[sntv s,.pointer (some ⟨B,0,none⟩)] w fun e w'=>e= .returned (.bool (outB2 m s))∧Below w.heap.size w w':=by
 have hBl:=obj_lt hB;obtain⟨⟨p0,p1,p2,p3,p4,p5,p6⟩,_⟩:=seven_at hB;clear hB;obtain⟨mK,mF,mT,mI,mL,mk,mN⟩:=m;obtain⟨si,st,sk,sn⟩:=s;unfold outB2;dsimp only at *;by_cases h1:si=mI
 ·by_cases h2:st=mF
  ·subst h1 h2;go_enter Tryz.func170,Tryz.ntmps170
   go_wp2_with fail;go_ret;exact⟨by simp,below_one w _⟩
  ·have q2:(st == mF)=false:=by simpa using h2
   subst h1;go_enter Tryz.func170,Tryz.ntmps170
   go_wp2_with fail;go_ret;exact⟨by simp[h2],below_one w _⟩
 ·have q1:(si == mI)=false:=by simpa using h1
  go_enter Tryz.func170,Tryz.ntmps170
  go_wp2_with fail;go_ret;exact⟨by simp[h1],below_one w _⟩
def ackI (l:List Snt) (m:Mg):Nat:=l.findIdx (outB2 m)
theorem idxSent (a:Option Addr) (cap:Nat) (l:List Snt) (B:Nat) (m:Mg) (w:World) (hl:l.length≤1000) (ha:SentAt w a l) (hB:msgB w B m):
 Calls Tryz.prog 200 #[.slice a l.length cap,.func (.func 170) #[] #[.pointer (some ⟨B,0,none⟩)]] w fun e w'=>e= .returned (.int .i64 (if ackI l m < l.length then(ackI l m:Int) else -1))∧Below w.heap.size w w':=by
 have HC:=hide (fun s w1 (hb:Below w.heap.size w w1)=>isAcked s B m w1 (obj_step hB hb));have HA:=hide ha
 have HN:Hid (∀i (hi:i < l.length),i < ackI l m→outB2 m l[i]=false):=fun i hi h=>by
  have:=List.not_of_lt_findIdx h
  simpa using this
 have HY:Hid (∀(hi:ackI l m < l.length),outB2 m l[ackI l m]=true):=fun hi=>List.findIdx_getElem (w:=hi)
 have HLE:Hid (ackI l m≤l.length):=List.findIdx_le_length;clear ha hB;generalize ackI l m=R at *;go_enter Tryz.func200,Tryz.ntmps200
 go_wp2_with fail;go_loopw [8] (fun i wr=>∃k:Nat,k≤R∧i= .int .i64 k∧Below w.heap.size w wr) (fun i _=>l.length - (intOf i).toNat)
 case atStart=>exact Za32
 case round=>
  obtain⟨k,hk,rfl,hbw⟩:=hrel;have HB:=hide hbw;by_cases hkl:k < l.length
  ·have hklI:(k:Int) < (l.length:Int):=by omega
   obtain⟨g,off,e0,hg,q0,q1,q2,q3⟩:=SentAt.four (GR.At.below HA hbw) k hkl;have HCk:=hide (HC l[k]);have HNk:=hide (HN k hkl)
   have HYk:Hid (k=R→outB2 m l[k]=true):=fun e=>by
    subst e
    exact HY hkl
   subst e0;clear hbw HC HN HY;generalize l[k]=sk at *;obtain⟨si,st,sx,sn⟩:=sk;dsimp only at q0 q1 q2 q3 HCk HNk HYk;by_cases hR:k=R
   ·have hq:=unhide HYk hR;subst hR;open Sa195 in exact Ya47
   ·have hq:=unhide HNk (by omega);open Sa194 in exact Ya47
  ·have hRl:¬R < l.length:=by omega
   have hke:k=l.length:=by have:=unhide HLE;omega
   subst hke;have hnlt:decide ((l.length:Int) < (l.length:Int))=false:=by simp
   go_wp2_with fail;go_ret;exact⟨by simp,HB⟩
abbrev zS:List Value:=[.int .i64 0,.int .i64 0,.string ⟨#[]⟩,.int .i64 0]
theorem run_clear_snt (w:World) (ty:TypeId) (g o c:Nat) (cur:Array Value) (hg:w.heap[g]?=some (.cells cur 79 (0,0))) (hfit:o+4≤cur.size):
 (Builtin.clear_ #[26] ty #[.slice (some ⟨g,o,none⟩) 1 c]).run Tryz.prog w= .ok (.tuple #[]) (w.setRow g (cur.toList.take o++zS++cur.toList.drop (o+4)).toArray):=by
 have hst:=run_storeCells_at Tryz.prog g o 79 zS 0 cur w hg (by simpa using hfit) (by intro u hu;simp only[zS,List.mem_cons,List.not_mem_nil,or_false] at hu;rcases hu with rfl|rfl|rfl|rfl<;>rfl);have hzc:(Builtin.zeroCells (Value.cells (.agg #[.int .i64 0,.int .i64 0,.string ⟨#[]⟩,.int .i64 0])) 1).toList=zS:=by kernel_rfl
 have h1:(Builtin.clear_ #[26] ty #[.slice (some ⟨g,o,none⟩) 1 c]).run Tryz.prog w=((storeCells ⟨g,o,none⟩ zS).run Tryz.prog w).andThen fun _ w'=> .ok (.tuple #[]) w':=by
  simp[Builtin.clear_,run_underlying Tryz.underlying26];rw [hzc]
 rw [h1,hst];rfl
theorem flatS_len (l:List Snt):(GR.flat encSnt l).length=l.length*4:=GR.flat_length encSnt 4 encSnt_length l
theorem setRun_left:∀(vs a b:List Value) (o:Nat),o+vs.length≤a.length→GR.setRun (a++b) o vs=GR.setRun a o vs++b:=by
 intro vs;induction vs with
 |nil=>intro a b o _;rfl
 |cons v vs ih=>
  intro a b o h
  simp only[List.length_cons] at h
  show GR.setRun ((a++b).set o v) (o+1) vs=GR.setRun (a.set o v) (o+1) vs++b
  rw [List.set_append_left _ _ (by omega),ih _ _ _ (by rw [List.length_set];omega)]
abbrev SB (w:World) (g:Nat) (R:List Snt) (rest:List Value):Prop:=w.heap[g]?=some (.cells (GR.flat encSnt R++rest).toArray 79 (0,0))
theorem SB.four {w:World} {g:Nat} {R:List Snt} {rest:List Value} (h:SB w g R rest) (i:Nat) (hi:i < R.length):w.cell? ⟨g,i*4,none⟩=some (.int .i64 R[i].i)∧w.cell? ⟨g,i*4+1,none⟩=some (.int .i64 R[i].t)∧w.cell? ⟨g,i*4+2,none⟩=some (.string R[i].k)∧w.cell? ⟨g,i*4+3,none⟩=some (.int .i64 R[i].n):=by
 have hc:∀j,j < 4→w.cell? ⟨g,i*4+j,none⟩=(encSnt R[i])[j]?:=fun j hj=>by
  rw [cell_of_row w g _ _ 79 (0,0) h,List.getElem?_toArray,List.getElem?_append_left (by rw [flatS_len];omega)]
  exact GR.flat_at encSnt 4 encSnt_length R i hi j hj
 exact⟨hc 0 (by omega),hc 1 (by omega),hc 2 (by omega),hc 3 (by omega)⟩
theorem SB.set {w:World} {g:Nat} {R:List Snt} {rest:List Value} (h:SB w g R rest) (i:Nat) (hi:i < R.length) (x:Snt):SB (GR.setW w g (i*4) (encSnt x)) g (R.set i x) rest:=by
 have h2:=GR.setW_blk (encSnt x) (o:=i*4) h;rw [setRun_left _ _ _ _ (by rw [flatS_len,encSnt_length];omega),GR.flat_set encSnt 4 encSnt_length R i x hi] at h2;exact h2
namespace Mth
def gapR (l:List Snt) (i k:Nat):List Snt:=(l.eraseIdx i).take k++l.drop k
theorem gapR_start {l:List Snt} {i:Nat} (h:i < l.length):gapR l i i=l:=by
 unfold gapR;rw [List.eraseIdx_eq_take_drop_succ,List.take_append_of_le_length (by rw [List.length_take];omega),List.take_take,Nat.min_self,List.take_append_drop]
theorem gapR_len {l:List Snt} {i k:Nat} (h:i < l.length) (hk:k < l.length):(gapR l i k).length=l.length:=by
 unfold gapR;rw [List.length_append,List.length_take,List.length_eraseIdx_of_lt h,List.length_drop];omega
theorem gapR_at {l:List Snt} {i k:Nat} (h:i < l.length) (hk:k+1 < l.length):(gapR l i k)[k+1]?=some l[k+1]:=by
 unfold gapR;rw [List.getElem?_append_right (by rw [List.length_take,List.length_eraseIdx_of_lt h];omega),List.length_take,List.length_eraseIdx_of_lt h,List.getElem?_drop];rw [show k+(k+1 - min k (l.length - 1))=k+1 by omega,List.getElem?_eq_getElem hk]
theorem gapR_step {l:List Snt} {i k:Nat} (h:i≤k) (hk:k+1 < l.length):(gapR l i k).set k l[k+1]=gapR l i (k+1):=by
 have hlt:(List.take k (l.eraseIdx i)).length=k:=by rw [List.length_take,List.length_eraseIdx_of_lt (by omega)];omega
 unfold gapR;rw [List.set_append_right _ _ (by omega),hlt,Nat.sub_self,List.drop_eq_getElem_cons (show k < l.length by omega),List.set_cons_zero];have hke:k < (l.eraseIdx i).length:=by rw [List.length_eraseIdx_of_lt (by omega)];omega
 rw [List.take_succ_eq_append_getElem hke,List.getElem_eraseIdx_of_ge hke h,List.append_assoc];rfl
theorem gapR_end {l:List Snt} {i:Nat} (h:i < l.length):gapR l i (l.length - 1)=l.eraseIdx i++l.drop (l.length - 1):=by
 unfold gapR;rw [List.take_of_length_le (by rw [List.length_eraseIdx_of_lt h];omega)]
theorem ack_none {l:List Snt} {m:Mg} (h:¬ackI l m < l.length):l.filter (fun s=> !outB2 m s)=l:=by
 rw [List.filter_eq_self];intro s hs;have h1:¬∃x∈l,outB2 m x=true:=fun hx=>h (List.findIdx_lt_length_of_exists hx)
 cases hq:outB2 m s with
 |false=>rfl
 |true=>exact absurd ⟨s,hs,hq⟩ h1
theorem ack_one {l:List Snt} {m:Mg} (hp:l.Pairwise (fun s t=>s.i < t.i)) (h:ackI l m < l.length):l.filter (fun s=> !outB2 m s)=l.eraseIdx (ackI l m):=by
 have hy:outB2 m l[ackI l m]=true:=List.findIdx_getElem (w:=h);have hid:l[ackI l m].i=m.I:=(of_decide_eq_true hy).1
 have hno:∀j (hj:j < l.length),j≠ackI l m→outB2 m l[j]=false:=fun j hj hne=>by
  cases hq:outB2 m l[j] with
  |false=>rfl
  |true=>
   exfalso
   have h1:l[j].i=m.I:=(of_decide_eq_true hq).1
   rcases Nat.lt_or_gt_of_ne hne with hlt|hgt
   ·have:=List.pairwise_iff_getElem.1 hp j _ hj h hlt;omega
   ·have:=List.pairwise_iff_getElem.1 hp _ j h hj hgt;omega
 have e:l=l.take (ackI l m)++l[ackI l m]::l.drop (ackI l m+1):=by rw [←List.drop_eq_getElem_cons h,List.take_append_drop]
 rw [List.eraseIdx_eq_take_drop_succ];generalize ackI l m=R at *;have ef:l.filter (fun s=> !outB2 m s)=(l.take R++l[R]::l.drop (R+1)).filter (fun s=> !outB2 m s):=by rw [←e]
 rw [ef,List.filter_append,List.filter_cons_of_neg (by rw [hy];simp)];congr 1
 ·rw [List.filter_eq_self];intro s hs;obtain⟨j,hj,rfl⟩:=List.mem_iff_getElem.1 hs;rw [List.length_take] at hj;rw [List.getElem_take,hno j (by omega) (by omega)];rfl
 ·rw [List.filter_eq_self];intro s hs;obtain⟨j,hj,rfl⟩:=List.mem_iff_getElem.1 hs;rw [List.length_drop] at hj;rw [List.getElem_drop,hno (R+1+j) (by omega) (by omega)];rfl
end Mth
theorem delSent_at (g cap:Nat) (l:List Snt) (rest:List Value) (B R:Nat) (m:Mg) (w:World) (hl:l.length≤1000) (hR:R < l.length) (hno:∀j (hj:j < l.length),R < j→outB2 m l[j]=false) (hnc:l.length≤cap) (hcm:cap≤maxLen) (hrl:l.length*4+rest.length=cap*4) (hB:msgB w B m) (hS:SB w g l rest)
 (hix:Calls Tryz.prog 200 #[.slice (some ⟨g,0,none⟩) l.length cap,.func (.func 170) #[] #[.pointer (some ⟨B,0,none⟩)]] w fun e w'=>e= .returned (.int .i64 (R:Int))∧Below w.heap.size w w'):
 Calls Tryz.prog 169 #[.slice (some ⟨g,0,none⟩) l.length cap,.func (.func 170) #[] #[.pointer (some ⟨B,0,none⟩)]] w fun e w'=>e= .returned (.slice (some ⟨g,0,none⟩) (l.length - 1) cap)∧(∃rest2,SB w' g (l.eraseIdx R) rest2∧(l.length - 1)*4+rest2.length=cap*4)∧w.grownBy w' (some g):=by
 have hne:B≠g:=fun e=>by
  unfold msgB at hB
  unfold SB at hS
  rw [e,hS] at hB
  simp at hB
 have HC:=hide (fun s w1 (hg:w.grownBy w1 (some g))=>isAcked s B m w1 ((hg.block B (obj_lt hB) (fun e=>hne (by injection e))).trans hB));have HNO:=hide hno;have HS0:=hide hS;have HIX:=hide hix;have hRI:¬((R:Int)= -1):=by omega
 have hRb:((R:Int) == -1)=false:=beq_eq_false_iff_ne.2 hRI;clear hB hno hS hix hne;go_enter Tryz.func169,Tryz.ntmps169
 go_wp2_with fail;refine HIX.mono ?_;rintro e w1 ⟨rfl,hb1⟩;have HS1:=hide (obj_step HS0 hb1);have HG1:=hide (grown_of_below hb1 (some g));clear hb1 HIX;go_wp2_with fail;go_loopw [5,6] (fun i j wr=>∃k jj:Nat,jj=k+1∧R≤k∧k < l.length∧i= .int .i64 k∧j= .int .i64 jj∧SB wr g (gapR l R k) rest∧w.grownBy wr (some g)) (fun i j _=>l.length - (intOf j).toNat)
 case atStart=>exact⟨R,R+1,rfl,Nat.le_refl _,hR,rfl,rfl,by rw [gapR_start hR];exact HS1,HG1⟩
 case round=>
  obtain⟨k,jj,hjj,hk1,hk2,rfl,rfl,hSk,hGk⟩:=hrel;have HJJ:=hide hjj;have HSk:=hide hSk;have HGk:=hide hGk;have hgl:=obj_lt hSk;clear hSk hGk;by_cases hlt:k+1 < l.length
  ·have hltI:(jj:Int) < (l.length:Int):=by omega
   have hkI:(k:Int) < (l.length:Int):=by omega
   have hgl2:k+1 < (gapR l R k).length:=by rw [gapR_len hR hk2];exact hlt
   have hqs:=SB.four HSk (k+1) hgl2
   have hat:(gapR l R k)[k+1]=l[k+1]:=by
    have:=gapR_at hR hlt;rw [List.getElem?_eq_getElem hgl2] at this;exact Option.some.inj this
   rw [hat] at hqs;have HST:=hide (gapR_step hk1 hlt);have HNk:=hide (HNO (k+1) hlt (by omega));have HCk:=hide (HC l[k+1]);clear hat;generalize l[k+1]=sk at *;rw [←hjj] at hqs;obtain⟨q0,q1,q2,q3⟩:=hqs;clear hjj;obtain⟨si,st,sx,sn⟩:=sk;dsimp only at q0 q1 q2 q3 HNk HCk;go_upto_region 8 with fail;refine wp_at (fun W hW=>?_);have e1:W.heap[wr.heap.size]?=some (.cells #[.int .i64 si,.int .i64 st,.string sx,.int .i64 sn] 79 (0,0)):=by rw [hW];exact heap_alloc_new _ _
   have HBW:Hid (Below wr.heap.size wr W):=by rw [hW];exact below_one wr _
   obtain⟨c0,c1,c2,c3⟩:=fourC e1;have hwl:=obj_lt e1;have E1:=hide e1;clear hW e1 q0 q1 q2 q3;go_wp2_with fail;refine(HCk W (HGk.andThen (grown_of_below HBW none) (fun j hj=>by cases hj))).mono ?_;rintro e W2 ⟨rfl,hb2⟩;have E2:=hide (obj_step E1 hb2);have HB2:=hide (HBW.trans (hb2.mono HBW.size));have HS2:=hide (obj_step HSk HB2);have HG2:=hide (HGk.andThen (grown_of_below HB2 none) (fun j hj=>by cases hj));have hkl3:k < (gapR l R k).length:=by omega
   obtain⟨r0,r1,r2,r3⟩:=SB.four HS2 k hkl3;have f0:=obj_free HS2 (k*4);have f1:=obj_free HS2 (k*4+1);have f2:=obj_free HS2 (k*4+2);have f3:=obj_free HS2 (k*4+3);have hgl4:=obj_lt HS2;have hwl2:=obj_lt E2;rw [unhide HNk];clear c0 c1 c2 c3 hb2;obtain⟨c0,c1,c2,c3⟩:=fourC E2;have HS3:=hide (SB.set HS2 k hkl3 ⟨si,st,sx,sn⟩)
   have HG3:Hid (W2.grownBy (GR.setW W2 g (k*4) (encSnt ⟨si,st,sx,sn⟩)) (some g)):=by
    have h:=setW_keeps (g:=g) (encSnt ⟨si,st,sx,sn⟩) W2 (k*4);exact⟨h.os,h.tape,h.output,h.size,fun x hx hne=>h.block x hx (fun hm=>hne (by have:x=g:=(by simpa using hm);rw [this]))⟩
   rw [unhide HST] at HS3;go_wp2_with fail;go_roundw
   case rel=>exact⟨k+1,jj+1,by have:=unhide HJJ;omega,by omega,hlt,by go_num,by go_num,HS3,HG2.andThen HG3 (fun j hj=> .inr hj)⟩
   case measure=>simp[intOf];omega
  ·have hke:l.length - 1=k:=by omega
   have hjl:jj=l.length:=by omega
   have h1eq:l.length - k=1:=by omega
   have hgl3:=gapR_len hR hk2;have hend:=gapR_end hR;rw [hke] at hend;have hel:(l.eraseIdx R).length=k:=by rw [List.length_eraseIdx_of_lt hR];exact hke
   have hXl:(GR.flat encSnt (gapR l R k)++rest).length=cap*4:=by rw [List.length_append,flatS_len,hgl3];exact hrl
   have hcl:∀ty c,(Builtin.clear_ #[26] ty #[.slice (some ⟨g,k*4,none⟩) 1 c]).run Tryz.prog wr= .ok (.tuple #[]) (wr.setRow g ((GR.flat encSnt (gapR l R k)++rest).take (k*4)++zS++(GR.flat encSnt (gapR l R k)++rest).drop (k*4+4)).toArray):=fun ty c=>by
    have h:=run_clear_snt wr ty g (k*4) c _ HSk (by rw [List.size_toArray,hXl];omega)
    exact h
   have HFB:Hid (SB (wr.setRow g ((GR.flat encSnt (gapR l R k)++rest).take (k*4)++zS++(GR.flat encSnt (gapR l R k)++rest).drop (k*4+4)).toArray) g (l.eraseIdx R) (zS++(GR.flat encSnt (gapR l R k)++rest).drop (k*4+4))):=by
    have h:=setRow_heap wr g _ ((GR.flat encSnt (gapR l R k)++rest).take (k*4)++zS++(GR.flat encSnt (gapR l R k)++rest).drop (k*4+4)).toArray 79 _ HSk
    have ht:(GR.flat encSnt (gapR l R k)++rest).take (k*4)=GR.flat encSnt (l.eraseIdx R):=by
     rw [hend,GR.flat_append,List.append_assoc];exact List.take_left' (by rw [flatS_len,hel])
    rw [ht] at h;show SB _ g (l.eraseIdx R) _
    unfold SB;rw [←List.append_assoc,ht];exact h
   have HRL:Hid (k*4+(zS++(GR.flat encSnt (gapR l R k)++rest).drop (k*4+4)).length=cap*4):=by
    show k*4+(zS++(GR.flat encSnt (gapR l R k)++rest).drop (k*4+4)).length=cap*4
    rw [List.length_append,List.length_drop,hXl];show k*4+(4+_)=_
    omega
   have HGF:Hid (w.grownBy (wr.setRow g ((GR.flat encSnt (gapR l R k)++rest).take (k*4)++zS++(GR.flat encSnt (gapR l R k)++rest).drop (k*4+4)).toArray) (some g)):=by
    refine HGk.andThen (row':=some g) ⟨rfl,rfl,rfl,by simp,fun x hx hne=>setRow_other wr g x _ (fun e=>hne (by rw [e]))⟩ (fun j hj=> .inr hj)
   have hkc:k≤cap:=by omega
   have hkI:(k:Int)≤(l.length:Int):=by omega
   have hkI2:(k:Int)≤(cap:Int):=by omega
   have hcm2:cap≤9223372036854775807:=by unfold maxLen at hcm;omega
   have HKE:=hide hke;generalize (GR.flat encSnt (gapR l R k)++rest).take (k*4)++zS++(GR.flat encSnt (gapR l R k)++rest).drop (k*4+4)=X2 at *;subst hjl;have hnlt:decide ((l.length:Int) < (l.length:Int))=false:=by simp
   clear HC HNO HS0 HS1 HG1 HSk HGk hend hXl hel hgl3 hlt hke;go_wp2_with (simp only[h1eq,hcl])
   go_ret;exact⟨by rw [unhide HKE];first|done|rfl,⟨_,HFB,by rw [unhide HKE];exact HRL⟩,HGF⟩
def GivesS (w:World) (B:Nat) (v:Value) (l:List Snt) (e:Ending) (w':World):Prop:=∃a c,e= .returned (.slice a l.length c)∧w'.ownsRow B 79 4 (.slice a l.length c) l.length (GR.flat encSnt l)∧w.grownBy w' v.ownBlock∧∀x,(Value.slice a l.length c).ownBlock=some x→v.ownBlock=some x
theorem delSent_none (a:Option Addr) (cap:Nat) (l:List Snt) (B:Nat) (w:World)
 (hix:Calls Tryz.prog 200 #[.slice a l.length cap,.func (.func 170) #[] #[.pointer (some ⟨B,0,none⟩)]] w fun e w'=>e= .returned (.int .i64 (-1))∧Below w.heap.size w w'):
 Calls Tryz.prog 169 #[.slice a l.length cap,.func (.func 170) #[] #[.pointer (some ⟨B,0,none⟩)]] w fun e w'=>e= .returned (.slice a l.length cap)∧Below w.heap.size w w':=by
 have HIX:=hide hix;clear hix;go_enter Tryz.func169,Tryz.ntmps169
 go_wp2_with fail;refine HIX.mono ?_;rintro e w1 ⟨rfl,hb1⟩;have HB:=hide hb1;clear hb1 HIX;go_wp2_with fail;go_ret;exact⟨rfl,HB⟩
theorem delSent (B0:Nat) (a:Option Addr) (cap:Nat) (l:List Snt) (B:Nat) (m:Mg) (w:World) (hl:l.length≤1000) (hp:l.Pairwise (fun s t=>s.i < t.i)) (hB:msgB w B m) (ho:w.ownsRow B0 79 4 (.slice a l.length cap) l.length (GR.flat encSnt l)):
 Calls Tryz.prog 169 #[.slice a l.length cap,.func (.func 170) #[] #[.pointer (some ⟨B,0,none⟩)]] w (GivesS w B0 (.slice a l.length cap) (l.filter (fun s=> !outB2 m s))):=by
 have hat:SentAt w a l:=by
  obtain⟨a',cp,he,ha⟩:=GR.own_at (enc:=encSnt) (sz:=4) (l:=l) encSnt_length ho;cases he
  exact ha
 have hix:=idxSent a cap l B m w hl hat hB;by_cases h:ackI l m < l.length
 ·rw [if_pos h] at hix;rw [ack_one hp h];have hy:outB2 m l[ackI l m]=true:=List.findIdx_getElem (w:=h);have hid:l[ackI l m].i=m.I:=(of_decide_eq_true hy).1
  have hno:∀j (hj:j < l.length),ackI l m < j→outB2 m l[j]=false:=fun j hj hlt=>by
   cases hq:outB2 m l[j] with
   |false=>rfl
   |true=>
    exfalso
    have h1:l[j].i=m.I:=(of_decide_eq_true hq).1
    have:=List.pairwise_iff_getElem.1 hp _ j h hj hlt
    omega
  open Sa278 in exact Ya75
 ·rw [if_neg h] at hix;rw [ack_none h];refine(delSent_none a cap l B w hix).mono ?_;rintro e w' ⟨rfl,hb⟩;exact⟨a,cap,rfl,GR.own_below ho hb,grown_of_below hb _,fun x hx=>hx⟩
set_option maxHeartbeats 4000000
theorem WK.setOut {w0 w w':World} {wb:Nat} {n:Nd} {A:Ads} {G:Blks} {c:Nat→Nat} {v:Value} {L:List Mg} {a:Option Addr} {cp:Nat} {l:List Snt} (h:WK w0 w wb n A G c v L) (hg:w.grownBy w' (Value.slice A.o n.out.length A.co).ownBlock) (ho:w'.ownsRow w0.heap.size 79 4 (.slice a l.length cp) l.length (GR.flat encSnt l)) (hx:∀x,(Value.slice a l.length cp).ownBlock=some x→(Value.slice A.o n.out.length A.co).ownBlock=some x):
 w'.heap[wb]?=some (.cells (wkc n A v) 74 (0,0))∧WK w0 (w'.setCell ⟨wb,5,none⟩ (.slice a l.length cp)) wb (setOut n l) ⟨A.k,A.p,a,A.s,A.r,A.ck,A.cp,cp,A.cs,A.cr⟩ G c v L:=by
 have hN:=h.no;have k3:KC c 3 w w':=KC.grown hg (fun x hx=>hN.co x hx);have hb1:=k3.obj h.blk (by rw [h.cw];omega);have k8:KC c 8 w' (w'.setCell ⟨wb,5,none⟩ (.slice a l.length cp)):=KC.set h.cw;have hbel:=k3.below h.keep hN.lo (by omega) h.keep.size;have hco:∀x,(Value.slice a l.length cp).ownBlock=some x→c x=3:=fun x hx'=>hN.co x (hx x hx')
 refine⟨hb1,k8.below hbel hN.lo (by omega) (Nat.le_trans h.keep.size k3.size),blk_setO hb1 5 (.slice a l.length cp),⟨k8.w (k3.w hN.k hN.ck (by omega)) hN.ck (by omega),k8.w (k3.w hN.p hN.cp (by omega)) hN.cp (by omega),k8.own ho hco (by omega),k8.seen (k3.seen hN.s hN.c4 hN.ci (by omega) (by omega)) hN.c4 hN.ci (by omega) (by omega),k8.own (k3.own hN.r hN.cr (by omega)) hN.cr (by omega),hN.lo,hN.ck,hN.cp,hco,hN.c4,hN.ci,hN.cr,hN.ni⟩,k8.own (k3.own h.m h.cm (by omega)) h.cm (by omega),h.cm,h.cw⟩
theorem wkHear_wno (w0 w:World) (wb:Nat) (n:Nd) (A:Ads) (G:Blks) (c:Nat→Nat) (v:Value) (L:List Mg) (o:Op5) (hz:NdSz n 1048576) (hb:hasB n.kids o.m.F=false) (hK:o.m.K=0) (h:WK w0 w wb n A G c v L):Calls Tryz.prog 112 #[.pointer (some ⟨wb,0,none⟩),opw o] w fun e w'=>e= .returned (.int .i64 (hearN n o.m).2.2)∧∃A' G' c' v',WK w0 w' wb (hearN n o.m).1 A' G' c' v' (L++(hearN n o.m).2.1):=by
 have HKD:=hide (fun w1 (ha:NodeAt w1 A n)=>implIsKid n A o.m.F w1 (Nat.le_trans hz.k (by omega)) ha.k);rw [hb] at HKD
 have HR:Hid (hearN n o.m=(n,[],1)):=by
  show hearN n o.m=_
  unfold hearN;rw [if_neg (by omega),if_neg (by omega),if_neg (by rw [hb];simp)]
 rw [unhide HR];clear hz hb HR;open Sa25 in exact Ya6
theorem wkHear_wyes (w0 w:World) (wb:Nat) (n:Nd) (A:Ads) (G:Blks) (c:Nat→Nat) (v:Value) (L:List Mg) (o:Op5) (E:Nat→Addr) (hz:NdSz n 1048576) (hok:ndOk n=true) (hm:mgOk o.m=true) (hL:L.length≤2097100) (hb:hasB n.kids o.m.F=true) (hK:o.m.K=0) (h:WK w0 w wb n A G c v L) (he:Errs w0 E):Calls Tryz.prog 112 #[.pointer (some ⟨wb,0,none⟩),opw o] w fun e w'=>e= .returned (.int .i64 (hearN n o.m).2.2)∧∃A' G' c' v',WK w0 w' wb (hearN n o.m).1 A' G' c' v' (L++(hearN n o.m).2.1):=by
 have hw:=mgOk_want hm hK;have HKD:=hide (fun w1 (ha:NodeAt w1 A n)=>implIsKid n A o.m.F w1 (Nat.le_trans hz.k (by omega)) ha.k);rw [hb] at HKD;have HPY:=hide (fun W (hW:WK w0 W wb n A G c v L)=>wkPay w0 W wb n A G c v L o.m.F o.m.k o.m.N E hok hw.1 hw.2.1 hw.2.2 hL hW he)
 have HR:Hid (hearN n o.m=((giveN n o.m.F o.m.k o.m.N).1,(giveN n o.m.F o.m.k o.m.N).2.1,0)):=by
  show hearN n o.m=_
  unfold hearN;rw [if_neg (by omega),if_neg (by omega),if_pos hb]
 rw [unhide HR];clear hz hok hm hL he HR hw hb;generalize giveN n o.m.F o.m.k o.m.N=TT at *;open Sa24 in exact Ya6
theorem wkHear_pay_false (w0 w:World) (wb:Nat) (n:Nd) (A:Ads) (G:Blks) (c:Nat→Nat) (v:Value) (L:List Mg) (o:Op5) (E:Nat→Addr) (hz:NdSz n 1048576) (hok:ndOk n=true) (hm:mgOk o.m=true) (hF:nearB n o.m.F=true) (hks:o.m.k.size≤1048576) (hL:L.length≤2097100) (hb:(takeN n o.m).2=false) (hK:o.m.K=1) (h:WK w0 w wb n A G c v L) (he:Errs w0 E):Calls Tryz.prog 112 #[.pointer (some ⟨wb,0,none⟩),opw o] w fun e w'=>e= .returned (.int .i64 (hearN n o.m).2.2)∧∃A' G' c' v',WK w0 w' wb (hearN n o.m).1 A' G' c' v' (L++(hearN n o.m).2.1):=by
 have hw:=mgOk_pay hm hK;have HTK:=hide (fun W (hW:WK w0 W wb n A G c v L)=>wkTake w0 W wb n A G c v L o.m E hz hok hF hks hw.2.2.2.1 (by omega) hw.2.1 hW he);rw [hb] at HTK
 have HR:Hid (hearN n o.m=((takeN n o.m).1,[],1)):=by
  show hearN n o.m=_
  unfold hearN;rw [if_pos hK,hb];rfl
 open Sa292 in exact Ya80
theorem wkHear_pay_true (w0 w:World) (wb:Nat) (n:Nd) (A:Ads) (G:Blks) (c:Nat→Nat) (v:Value) (L:List Mg) (o:Op5) (E:Nat→Addr) (hz:NdSz n 1048576) (hok:ndOk n=true) (hm:mgOk o.m=true) (hF:nearB n o.m.F=true) (hks:o.m.k.size≤1048576) (hL:L.length≤2097100) (hb:(takeN n o.m).2=true) (hK:o.m.K=1) (h:WK w0 w wb n A G c v L) (he:Errs w0 E):Calls Tryz.prog 112 #[.pointer (some ⟨wb,0,none⟩),opw o] w fun e w'=>e= .returned (.int .i64 (hearN n o.m).2.2)∧∃A' G' c' v',WK w0 w' wb (hearN n o.m).1 A' G' c' v' (L++(hearN n o.m).2.1):=by
 have hw:=mgOk_pay hm hK;have HTK:=hide (fun W (hW:WK w0 W wb n A G c v L)=>wkTake w0 W wb n A G c v L o.m E hz hok hF hks hw.2.2.2.1 (by omega) hw.2.1 hW he);rw [hb] at HTK
 have HR:Hid (hearN n o.m=((takeN n o.m).1,[ackM n o.m],0)):=by
  show hearN n o.m=_
  unfold hearN;rw [if_pos hK,hb];rfl
 open Sa291 in exact Ya80
theorem wkHear_ack (w0 w:World) (wb:Nat) (n:Nd) (A:Ads) (G:Blks) (c:Nat→Nat) (v:Value) (L:List Mg) (o:Op5) (hok:ndOk n=true) (hK:o.m.K=2) (h:WK w0 w wb n A G c v L):Calls Tryz.prog 112 #[.pointer (some ⟨wb,0,none⟩),opw o] w fun e w'=>e= .returned (.int .i64 (hearN n o.m).2.2)∧∃A' G' c' v',WK w0 w' wb (hearN n o.m).1 A' G' c' v' (L++(hearN n o.m).2.1):=by
 have ho:=outs_asc (ndOk_parts hok).2.2.2.2.1;have HDL:=hide (fun W B (hB:msgB W B o.m) hO=>delSent w0.heap.size A.o A.co n.out B o.m W (by omega) ho.1 hB hO);unfold GivesS at HDL
 have HR:Hid (hearN n o.m=(setOut n (n.out.filter (fun s=> !outB2 o.m s)),[],0)):=by
  show hearN n o.m=_
  unfold hearN;rw [if_neg (by omega),if_pos hK]
 rw [unhide HR];clear hok ho HR;open Sa185 in exact Ya45
theorem wkHear (w0 w:World) (wb:Nat) (n:Nd) (A:Ads) (G:Blks) (c:Nat→Nat) (v:Value) (L:List Mg) (o:Op5) (E:Nat→Addr) (hz:NdSz n 1048576) (hok:ndOk n=true) (hm:mgOk o.m=true) (hF:nearB n o.m.F=true) (hks:o.m.k.size≤1048576) (hL:L.length≤2097100) (h:WK w0 w wb n A G c v L) (he:Errs w0 E):Calls Tryz.prog 112 #[.pointer (some ⟨wb,0,none⟩),opw o] w fun e w'=>e= .returned (.int .i64 (hearN n o.m).2.2)∧∃A' G' c' v',WK w0 w' wb (hearN n o.m).1 A' G' c' v' (L++(hearN n o.m).2.1):=by
 rcases mgOk_kind hm with hK|hK|hK
 ·cases hb:hasB n.kids o.m.F with
  |false=>exact wkHear_wno w0 w wb n A G c v L o hz hb hK h
  |true=>exact wkHear_wyes w0 w wb n A G c v L o E hz hok hm hL hb hK h he
 ·cases hb:(takeN n o.m).2 with
  |false=>exact wkHear_pay_false w0 w wb n A G c v L o E hz hok hm hF hks hL hb hK h he
  |true=>exact wkHear_pay_true w0 w wb n A G c v L o E hz hok hm hF hks hL hb hK h he
 ·exact wkHear_ack w0 w wb n A G c v L o hok hK h
set_option maxHeartbeats 2000000
theorem as_want_want (v:Value) (w:World):(Instr.typeAssert (.iface 243 v) 208 243 true).run Tryz.prog w= .ok (.tuple #[v,.bool true]) w:=by kernel_rfl
theorem as_pay_want (v:Value) (w:World):(Instr.typeAssert (.iface 245 v) 208 243 true).run Tryz.prog w= .ok (.tuple #[.agg #[.int .i64 0,.int .i64 0,.string ⟨#[]⟩,.int .i64 0],.bool false]) w:=by kernel_rfl
theorem as_pay_pay (v:Value) (w:World):(Instr.typeAssert (.iface 245 v) 208 245 true).run Tryz.prog w= .ok (.tuple #[v,.bool true]) w:=by kernel_rfl
theorem as_ack_want (v:Value) (w:World):(Instr.typeAssert (.iface 247 v) 208 243 true).run Tryz.prog w= .ok (.tuple #[.agg #[.int .i64 0,.int .i64 0,.string ⟨#[]⟩,.int .i64 0],.bool false]) w:=by kernel_rfl
theorem as_ack_pay (v:Value) (w:World):(Instr.typeAssert (.iface 247 v) 208 245 true).run Tryz.prog w= .ok (.tuple #[.agg #[.int .i64 0,.int .i64 0,.int .i64 0,.int .i64 0,.string ⟨#[]⟩,.int .i64 0],.bool false]) w:=by kernel_rfl
theorem as_ack_ack (v:Value) (w:World):(Instr.typeAssert (.iface 247 v) 208 247 true).run Tryz.prog w= .ok (.tuple #[v,.bool true]) w:=by kernel_rfl
theorem msgOf_want (F T:Int) (k:ByteArray) (N:Int) (w:World):Calls Tryz.prog 216 #[.iface 243 (.agg #[.int .i64 F,.int .i64 T,.string k,.int .i64 N])] w fun e w'=>e= .returned (mgv ⟨0,F,T,0,0,k,N⟩)∧Below w.heap.size w w':=by
 have f0:=as_want_want (.agg #[.int .i64 F,.int .i64 T,.string k,.int .i64 N]);go_enter Tryz.func216,Tryz.ntmps216
 go_wp2_with fail;refine bodyPost_ret (v:= .agg #[.int .i64 0,.int .i64 F,.int .i64 T,.int .i64 0,.int .i64 0,.string k,.int .i64 N]) (by simp[results,Tryz.results216,go_sem];try rfl) rfl ⟨rfl,?_⟩;exact Za91
theorem msgOf_pay (F T I L:Int) (k:ByteArray) (N:Int) (w:World):Calls Tryz.prog 216 #[.iface 245 (.agg #[.int .i64 F,.int .i64 T,.int .i64 I,.int .i64 L,.string k,.int .i64 N])] w fun e w'=>e= .returned (mgv ⟨1,F,T,I,L,k,N⟩)∧Below w.heap.size w w':=by
 have f0:=as_pay_want (.agg #[.int .i64 F,.int .i64 T,.int .i64 I,.int .i64 L,.string k,.int .i64 N]);have f1:=as_pay_pay (.agg #[.int .i64 F,.int .i64 T,.int .i64 I,.int .i64 L,.string k,.int .i64 N]);go_enter Tryz.func216,Tryz.ntmps216
 go_wp2_with fail;refine bodyPost_ret (v:= .agg #[.int .i64 1,.int .i64 F,.int .i64 T,.int .i64 I,.int .i64 L,.string k,.int .i64 N]) (by simp[results,Tryz.results216,go_sem];try rfl) rfl ⟨rfl,?_⟩;exact Za91
theorem msgOf_ack (F T I:Int) (w:World):Calls Tryz.prog 216 #[.iface 247 (.agg #[.int .i64 F,.int .i64 T,.int .i64 I])] w fun e w'=>e= .returned (mgv ⟨2,F,T,I,0,ByteArray.empty,0⟩)∧Below w.heap.size w w':=by
 have f0:=as_ack_want (.agg #[.int .i64 F,.int .i64 T,.int .i64 I]);have f1:=as_ack_pay (.agg #[.int .i64 F,.int .i64 T,.int .i64 I]);have f2:=as_ack_ack (.agg #[.int .i64 F,.int .i64 T,.int .i64 I]);go_enter Tryz.func216,Tryz.ntmps216
 go_wp2_with fail;refine bodyPost_ret (v:= .agg #[.int .i64 2,.int .i64 F,.int .i64 T,.int .i64 I,.int .i64 0,.string ByteArray.empty,.int .i64 0]) (by simp[results,Tryz.results216,go_sem];try rfl) rfl ⟨rfl,?_⟩;exact Za91
end Go.Proofs.YtppmcficiphgdaaGreatDoor
