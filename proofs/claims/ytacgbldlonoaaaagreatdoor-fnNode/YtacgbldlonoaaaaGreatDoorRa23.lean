/- Parts. -/
import Derived.Test.YtacgbldlonoaaaaGreatDoorRa22
namespace Go.Proofs.YtacgbldlonoaaaaGreatDoor
set_option maxHeartbeats 4000000
set_option maxRecDepth 100000
open Go.RowKit
open Mth
abbrev arb (s:jm):Value:= .agg #[.int .i64 s.i,.int .i64 s.t,.string s.k,.int .i64 s.n]
theorem Mi (s:jm) (B:Nat) (m:Mg) (w:World) (hB:eZ w B m):
 Calls Tryz.prog 172 #[arb s,.pointer (some ⟨B,0,none⟩)] w fun e w'=>e= .returned (.bool (gP m s))∧Below w.heap.size w w':=by
 have hBl:=aA hB;obtain⟨⟨p0,p1,p2,p3,p4,p5,p6⟩,_⟩:=gT hB;clear hB;obtain⟨mK,mF,mT,mI,mL,mk,mN⟩:=m;obtain⟨si,st,sk,sn⟩:=s;unfold gP;dsimp only at *;by_cases h1:si=mI
 ·by_cases h2:st=mF
  ·subst h1 h2;go_enter Tryz.func172,Tryz.ntmps172
   go_wp2_with fail;go_ret;exact⟨by simp,au w _⟩
  ·have q2:(st == mF)=false:=by simpa using h2
   subst h1;go_enter Tryz.func172,Tryz.ntmps172
   go_wp2_with fail;go_ret;exact⟨by simp[h2],au w _⟩
 ·have q1:(si == mI)=false:=by simpa using h1
  go_enter Tryz.func172,Tryz.ntmps172
  go_wp2_with fail;go_ret;exact⟨by simp[h1],au w _⟩
def mE (l:List jm) (m:Mg):Nat:=l.findIdx (gP m)
theorem VF (a:Option Addr) (cap:Nat) (l:List jm) (B:Nat) (m:Mg) (w:World) (hl:l.length≤1000) (ha:SentAt w a l) (hB:eZ w B m):
 Calls Tryz.prog 200 #[.slice a l.length cap,.func (.func 172) #[] #[.pointer (some ⟨B,0,none⟩)]] w fun e w'=>e= .returned (.int .i64 (if mE l m < l.length then(mE l m:Int) else -1))∧Below w.heap.size w w':=by
 have HC:=hide (fun s w1 (hb:Below w.heap.size w w1)=>Mi s B m w1 (aj hB hb));have HA:=hide ha
 have HN:Hid (∀i (hi:i < l.length),i < mE l m→gP m l[i]=false):=fun i hi h=>by
  have:=List.not_of_lt_findIdx h
  simpa using this
 have HY:Hid (∀(hi:mE l m < l.length),gP m l[mE l m]=true):=fun hi=>List.findIdx_getElem (w:=hi)
 have HLE:Hid (mE l m≤l.length):=List.findIdx_le_length;clear ha hB;generalize mE l m=R at *;go_enter Tryz.func200,Tryz.ntmps200
 go_wp2_with fail;go_loopw [8] (fun i wr=>∃k:Nat,k≤R∧i= .int .i64 k∧Below w.heap.size w wr) (fun i _=>l.length - (intOf i).toNat)
 case atStart=>exact L9
 case round=>
  obtain⟨k,hk,rfl,hbw⟩:=hrel;have HB:=hide hbw;by_cases hkl:k < l.length
  ·have aqx:(k:Int) < (l.length:Int):=by omega
   obtain⟨g,off,e0,hg,q0,q1,q2,q3⟩:=SentAt.four (GR.At.below HA hbw) k hkl;have HCk:=hide (HC l[k]);have UF:=hide (HN k hkl)
   have HYk:Hid (k=R→gP m l[k]=true):=fun e=>by
    subst e
    exact HY hkl
   subst e0;clear hbw HC HN HY;generalize l[k]=sk at *;obtain⟨si,st,sx,sn⟩:=sk;dsimp only at q0 q1 q2 q3 HCk UF HYk;by_cases hR:k=R
   ·have hq:=ah HYk hR;subst hR;open ahT in exact LJ
   ·have hq:=ah UF (by omega);open ahS in exact LJ
  ·have hRl:¬R < l.length:=by omega
   have hke:k=l.length:=by have:=ah HLE;omega
   subst hke;have hnlt:decide ((l.length:Int) < (l.length:Int))=false:=by simp
   go_wp2_with fail;go_ret;exact⟨by simp,HB⟩
abbrev zS:List Value:=[.int .i64 0,.int .i64 0,.string ⟨#[]⟩,.int .i64 0]
theorem BI (w:World) (ty:TypeId) (g o c:Nat) (cur:Array Value) (hg:w.heap[g]?=some (.cells cur 95 (0,0))) (hfit:o+4≤cur.size):
 (Builtin.clear_ #[26] ty #[.slice (some ⟨g,o,none⟩) 1 c]).run Tryz.prog w= .ok (.tuple #[]) (w.setRow g (cur.toList.take o++zS++cur.toList.drop (o+4)).toArray):=by
 have hst:=run_storeCells_at Tryz.prog g o 95 zS 0 cur w hg (by simpa using hfit) (by intro u hu;simp only[zS,List.mem_cons,List.not_mem_nil,or_false] at hu;rcases hu with rfl|rfl|rfl|rfl<;>rfl);have hzc:(Builtin.zeroCells (Value.cells (.agg #[.int .i64 0,.int .i64 0,.string ⟨#[]⟩,.int .i64 0])) 1).toList=zS:=by kernel_rfl
 have h1:(Builtin.clear_ #[26] ty #[.slice (some ⟨g,o,none⟩) 1 c]).run Tryz.prog w=((storeCells ⟨g,o,none⟩ zS).run Tryz.prog w).andThen fun _ w'=> .ok (.tuple #[]) w':=by
  simp[Builtin.clear_,run_underlying Tryz.underlying26];rw [hzc]
 rw [h1,hst];rfl
theorem kE (l:List jm):(GR.flat aS l).length=l.length*4:=GR.flat_length aS 4 bH l
theorem IC:∀(vs a b:List Value) (o:Nat),o+vs.length≤a.length→GR.setRun (a++b) o vs=GR.setRun a o vs++b:=by
 intro vs;induction vs with
 |nil=>intro a b o _;rfl
 |cons v vs ih=>
  intro a b o h
  simp only[List.length_cons] at h
  show GR.setRun ((a++b).set o v) (o+1) vs=GR.setRun (a.set o v) (o+1) vs++b
  rw [List.set_append_left _ _ (by omega),ih _ _ _ (by rw [List.length_set];omega)]
abbrev SB (w:World) (g:Nat) (R:List jm) (rest:List Value):Prop:=w.heap[g]?=some (.cells (GR.flat aS R++rest).toArray 95 (0,0))
theorem SB.four {w:World} {g:Nat} {R:List jm} {rest:List Value} (h:SB w g R rest) (i:Nat) (hi:i < R.length):w.cell? ⟨g,i*4,none⟩=some (.int .i64 R[i].i)∧w.cell? ⟨g,i*4+1,none⟩=some (.int .i64 R[i].t)∧w.cell? ⟨g,i*4+2,none⟩=some (.string R[i].k)∧w.cell? ⟨g,i*4+3,none⟩=some (.int .i64 R[i].n):=by
 have hc:∀j,j < 4→w.cell? ⟨g,i*4+j,none⟩=(aS R[i])[j]?:=fun j hj=>by
  rw [cell_of_row w g _ _ 95 (0,0) h,List.getElem?_toArray,List.getElem?_append_left (by rw [kE];omega)]
  exact GR.flat_at aS 4 bH R i hi j hj
 exact⟨hc 0 (by omega),hc 1 (by omega),hc 2 (by omega),hc 3 (by omega)⟩
theorem SB.set {w:World} {g:Nat} {R:List jm} {rest:List Value} (h:SB w g R rest) (i:Nat) (hi:i < R.length) (x:jm):SB (GR.setW w g (i*4) (aS x)) g (R.set i x) rest:=by
 have h2:=GR.setW_blk (aS x) (o:=i*4) h;rw [IC _ _ _ _ (by rw [kE,bH];omega),GR.flat_set aS 4 bH R i x hi] at h2;exact h2
namespace Mth
def jF (l:List jm) (i k:Nat):List jm:=(l.eraseIdx i).take k++l.drop k
theorem JZ {l:List jm} {i:Nat} (h:i < l.length):jF l i i=l:=by
 unfold jF;rw [List.eraseIdx_eq_take_drop_succ,List.take_append_of_le_length (by rw [List.length_take];omega),List.take_take,Nat.min_self,List.take_append_drop]
theorem GJ {l:List jm} {i k:Nat} (h:i < l.length) (hk:k < l.length):(jF l i k).length=l.length:=by
 unfold jF;rw [List.length_append,List.length_take,List.length_eraseIdx_of_lt h,List.length_drop];omega
theorem Vw {l:List jm} {i k:Nat} (h:i < l.length) (hk:k+1 < l.length):(jF l i k)[k+1]?=some l[k+1]:=by
 unfold jF;rw [List.getElem?_append_right (by rw [List.length_take,List.length_eraseIdx_of_lt h];omega),List.length_take,List.length_eraseIdx_of_lt h,List.getElem?_drop];rw [show k+(k+1 - min k (l.length - 1))=k+1 by omega,List.getElem?_eq_getElem hk]
theorem Nt {l:List jm} {i k:Nat} (h:i≤k) (hk:k+1 < l.length):(jF l i k).set k l[k+1]=jF l i (k+1):=by
 have hlt:(List.take k (l.eraseIdx i)).length=k:=by rw [List.length_take,List.length_eraseIdx_of_lt (by omega)];omega
 unfold jF;rw [List.set_append_right _ _ (by omega),hlt,Nat.sub_self,List.drop_eq_getElem_cons (show k < l.length by omega),List.set_cons_zero];have hke:k < (l.eraseIdx i).length:=by rw [List.length_eraseIdx_of_lt (by omega)];omega
 rw [List.take_succ_eq_append_getElem hke,List.getElem_eraseIdx_of_ge hke h,List.append_assoc];rfl
theorem Rk {l:List jm} {i:Nat} (h:i < l.length):jF l i (l.length - 1)=l.eraseIdx i++l.drop (l.length - 1):=by
 unfold jF;rw [List.take_of_length_le (by rw [List.length_eraseIdx_of_lt h];omega)]
theorem Q6 {l:List jm} {m:Mg} (h:¬mE l m < l.length):l.filter (fun s=> !gP m s)=l:=by
 rw [List.filter_eq_self];intro s hs;have h1:¬∃x∈l,gP m x=true:=fun hx=>h (List.findIdx_lt_length_of_exists hx)
 cases hq:gP m s with
 |false=>rfl
 |true=>exact absurd ⟨s,hs,hq⟩ h1
theorem Vn {l:List jm} {m:Mg} (hp:l.Pairwise (fun s t=>s.i < t.i)) (h:mE l m < l.length):l.filter (fun s=> !gP m s)=l.eraseIdx (mE l m):=by
 have hy:gP m l[mE l m]=true:=List.findIdx_getElem (w:=h);have hid:l[mE l m].i=m.I:=(of_decide_eq_true hy).1
 have hno:∀j (hj:j < l.length),j≠mE l m→gP m l[j]=false:=fun j hj hne=>by
  cases hq:gP m l[j] with
  |false=>rfl
  |true=>
   exfalso
   have h1:l[j].i=m.I:=(of_decide_eq_true hq).1
   rcases Nat.lt_or_gt_of_ne hne with hlt|hgt
   ·have:=List.pairwise_iff_getElem.1 hp j _ hj h hlt;omega
   ·have:=List.pairwise_iff_getElem.1 hp _ j h hj hgt;omega
 have e:l=l.take (mE l m)++l[mE l m]::l.drop (mE l m+1):=by rw [←List.drop_eq_getElem_cons h,List.take_append_drop]
 rw [List.eraseIdx_eq_take_drop_succ];generalize mE l m=R at *;have ef:l.filter (fun s=> !gP m s)=(l.take R++l[R]::l.drop (R+1)).filter (fun s=> !gP m s):=by rw [←e]
 rw [ef,List.filter_append,List.filter_cons_of_neg (by rw [hy];simp)];congr 1
 ·rw [List.filter_eq_self];intro s hs;obtain⟨j,hj,rfl⟩:=List.mem_iff_getElem.1 hs;rw [List.length_take] at hj;rw [List.getElem_take,hno j (by omega) (by omega)];rfl
 ·rw [List.filter_eq_self];intro s hs;obtain⟨j,hj,rfl⟩:=List.mem_iff_getElem.1 hs;rw [List.length_drop] at hj;rw [List.getElem_drop,hno (R+1+j) (by omega) (by omega)];rfl
end Mth
theorem JV (g cap:Nat) (l:List jm) (rest:List Value) (B R:Nat) (m:Mg) (w:World) (hl:l.length≤1000) (hR:R < l.length) (hno:∀j (hj:j < l.length),R < j→gP m l[j]=false) (hnc:l.length≤cap) (hcm:cap≤maxLen) (hrl:l.length*4+rest.length=cap*4) (hB:eZ w B m) (hS:SB w g l rest)
 (hix:Calls Tryz.prog 200 #[.slice (some ⟨g,0,none⟩) l.length cap,.func (.func 172) #[] #[.pointer (some ⟨B,0,none⟩)]] w fun e w'=>e= .returned (.int .i64 (R:Int))∧Below w.heap.size w w'):
 Calls Tryz.prog 171 #[.slice (some ⟨g,0,none⟩) l.length cap,.func (.func 172) #[] #[.pointer (some ⟨B,0,none⟩)]] w fun e w'=>e= .returned (.slice (some ⟨g,0,none⟩) (l.length - 1) cap)∧(∃aai,SB w' g (l.eraseIdx R) aai∧(l.length - 1)*4+aai.length=cap*4)∧w.grownBy w' (some g):=by
 have hne:B≠g:=fun e=>by
  unfold eZ at hB
  unfold SB at hS
  rw [e,hS] at hB
  simp at hB
 have HC:=hide (fun s w1 (hg:w.grownBy w1 (some g))=>Mi s B m w1 ((hg.block B (aA hB) (fun e=>hne (by injection e))).trans hB));have jY:=hide hno;have HS0:=hide hS;have Uo:=hide hix;have hRI:¬((R:Int)= -1):=by omega
 have hRb:((R:Int) == -1)=false:=beq_eq_false_iff_ne.2 hRI;clear hB hno hS hix hne;go_enter Tryz.func171,Tryz.ntmps171
 go_wp2_with fail;refine Uo.mono ?_;rintro e w1 ⟨rfl,hb1⟩;have TW:=hide (aj HS0 hb1);have HG1:=hide (fP hb1 (some g));clear hb1 Uo;go_wp2_with fail;go_loopw [5,6] (fun i j wr=>∃k jj:Nat,jj=k+1∧R≤k∧k < l.length∧i= .int .i64 k∧j= .int .i64 jj∧SB wr g (jF l R k) rest∧w.grownBy wr (some g)) (fun i j _=>l.length - (intOf j).toNat)
 case atStart=>exact⟨R,R+1,rfl,Nat.le_refl _,hR,rfl,rfl,by rw [JZ hR];exact TW,HG1⟩
 case round=>
  obtain⟨k,jj,hjj,hk1,hk2,rfl,rfl,hSk,ZR⟩:=hrel;have HJJ:=hide hjj;have HSk:=hide hSk;have HGk:=hide ZR;have hgl:=aA hSk;clear hSk ZR;by_cases hlt:k+1 < l.length
  ·have GL:(jj:Int) < (l.length:Int):=by omega
   have hkI:(k:Int) < (l.length:Int):=by omega
   have anM:k+1 < (jF l R k).length:=by rw [GJ hR hk2];exact hlt
   have hqs:=SB.four HSk (k+1) anM
   have hat:(jF l R k)[k+1]=l[k+1]:=by
    have:=Vw hR hlt;rw [List.getElem?_eq_getElem anM] at this;exact Option.some.inj this
   rw [hat] at hqs;have HST:=hide (Nt hk1 hlt);have UF:=hide (jY (k+1) hlt (by omega));have HCk:=hide (HC l[k+1]);clear hat;generalize l[k+1]=sk at *;rw [←hjj] at hqs;obtain⟨q0,q1,q2,q3⟩:=hqs;clear hjj;obtain⟨si,st,sx,sn⟩:=sk;dsimp only at q0 q1 q2 q3 UF HCk;go_upto_region 8 with fail;refine wp_at (fun W hW=>?_);have e1:W.heap[wr.heap.size]?=some (.cells #[.int .i64 si,.int .i64 st,.string sx,.int .i64 sn] 95 (0,0)):=by rw [hW];exact heap_alloc_new _ _
   have iD:Hid (Below wr.heap.size wr W):=by rw [hW];exact au wr _
   obtain⟨c0,c1,c2,c3⟩:=eY e1;have hwl:=aA e1;have E1:=hide e1;clear hW e1 q0 q1 q2 q3;go_wp2_with fail;refine(HCk W (HGk.andThen (fP iD none) (fun j hj=>by cases hj))).mono ?_;rintro e W2 ⟨rfl,hb2⟩;have E2:=hide (aj E1 hb2);have HB2:=hide (iD.trans (hb2.mono iD.size));have HS2:=hide (aj HSk HB2);have HG2:=hide (HGk.andThen (fP HB2 none) (fun j hj=>by cases hj));have anQ:k < (jF l R k).length:=by omega
   obtain⟨r0,r1,r2,r3⟩:=SB.four HS2 k anQ;have f0:=ay HS2 (k*4);have f1:=ay HS2 (k*4+1);have f2:=ay HS2 (k*4+2);have f3:=ay HS2 (k*4+3);have arI:=aA HS2;have abB:=aA E2;rw [ah UF];clear c0 c1 c2 c3 hb2;obtain⟨c0,c1,c2,c3⟩:=eY E2;have Xa:=hide (SB.set HS2 k anQ ⟨si,st,sx,sn⟩)
   have Wv:Hid (W2.grownBy (GR.setW W2 g (k*4) (aS ⟨si,st,sx,sn⟩)) (some g)):=by
    have h:=aL (g:=g) (aS ⟨si,st,sx,sn⟩) W2 (k*4);exact⟨h.os,h.tape,h.output,h.size,fun x hx hne=>h.block x hx (fun hm=>hne (by have:x=g:=(by simpa using hm);rw [this]))⟩
   rw [ah HST] at Xa;go_wp2_with fail;go_roundw
   case rel=>exact⟨k+1,jj+1,by have:=ah HJJ;omega,by omega,hlt,by go_num,by go_num,Xa,HG2.andThen Wv (fun j hj=> .inr hj)⟩
   case measure=>simp[intOf];omega
  ·have hke:l.length - 1=k:=by omega
   have hjl:jj=l.length:=by omega
   have abj:l.length - k=1:=by omega
   have anN:=GJ hR hk2;have hend:=Rk hR;rw [hke] at hend;have hel:(l.eraseIdx R).length=k:=by rw [List.length_eraseIdx_of_lt hR];exact hke
   have hXl:(GR.flat aS (jF l R k)++rest).length=cap*4:=by rw [List.length_append,kE,anN];exact hrl
   have hcl:∀ty c,(Builtin.clear_ #[26] ty #[.slice (some ⟨g,k*4,none⟩) 1 c]).run Tryz.prog wr= .ok (.tuple #[]) (wr.setRow g ((GR.flat aS (jF l R k)++rest).take (k*4)++zS++(GR.flat aS (jF l R k)++rest).drop (k*4+4)).toArray):=fun ty c=>by
    have h:=BI wr ty g (k*4) c _ HSk (by rw [List.size_toArray,hXl];omega)
    exact h
   have HFB:Hid (SB (wr.setRow g ((GR.flat aS (jF l R k)++rest).take (k*4)++zS++(GR.flat aS (jF l R k)++rest).drop (k*4+4)).toArray) g (l.eraseIdx R) (zS++(GR.flat aS (jF l R k)++rest).drop (k*4+4))):=by
    have h:=setRow_heap wr g _ ((GR.flat aS (jF l R k)++rest).take (k*4)++zS++(GR.flat aS (jF l R k)++rest).drop (k*4+4)).toArray 95 _ HSk
    have ht:(GR.flat aS (jF l R k)++rest).take (k*4)=GR.flat aS (l.eraseIdx R):=by
     rw [hend,GR.flat_append,List.append_assoc];exact List.take_left' (by rw [kE,hel])
    rw [ht] at h;show SB _ g (l.eraseIdx R) _
    unfold SB;rw [←List.append_assoc,ht];exact h
   have UQ:Hid (k*4+(zS++(GR.flat aS (jF l R k)++rest).drop (k*4+4)).length=cap*4):=by
    show k*4+(zS++(GR.flat aS (jF l R k)++rest).drop (k*4+4)).length=cap*4
    rw [List.length_append,List.length_drop,hXl];show k*4+(4+_)=_
    omega
   have HGF:Hid (w.grownBy (wr.setRow g ((GR.flat aS (jF l R k)++rest).take (k*4)++zS++(GR.flat aS (jF l R k)++rest).drop (k*4+4)).toArray) (some g)):=by
    refine HGk.andThen (row':=some g) ⟨rfl,rfl,rfl,by simp,fun x hx hne=>setRow_other wr g x _ (fun e=>hne (by rw [e]))⟩ (fun j hj=> .inr hj)
   have hkc:k≤cap:=by omega
   have hkI:(k:Int)≤(l.length:Int):=by omega
   have arR:(k:Int)≤(cap:Int):=by omega
   have hcm2:cap≤9223372036854775807:=by unfold maxLen at hcm;omega
   have HKE:=hide hke;generalize (GR.flat aS (jF l R k)++rest).take (k*4)++zS++(GR.flat aS (jF l R k)++rest).drop (k*4+4)=X2 at *;subst hjl;have hnlt:decide ((l.length:Int) < (l.length:Int))=false:=by simp
   clear HC jY HS0 TW HG1 HSk HGk hend hXl hel anN hlt hke;go_wp2_with (simp only[abj,hcl])
   go_ret;exact⟨by rw [ah HKE];first|done|rfl,⟨_,HFB,by rw [ah HKE];exact UQ⟩,HGF⟩
def Pv (w:World) (B:Nat) (v:Value) (l:List jm) (e:Ending) (w':World):Prop:=∃a c,e= .returned (.slice a l.length c)∧w'.ownsRow B 95 4 (.slice a l.length c) l.length (GR.flat aS l)∧w.grownBy w' v.ownBlock∧∀x,(Value.slice a l.length c).ownBlock=some x→v.ownBlock=some x
theorem Ec (a:Option Addr) (cap:Nat) (l:List jm) (B:Nat) (w:World)
 (hix:Calls Tryz.prog 200 #[.slice a l.length cap,.func (.func 172) #[] #[.pointer (some ⟨B,0,none⟩)]] w fun e w'=>e= .returned (.int .i64 (-1))∧Below w.heap.size w w'):
 Calls Tryz.prog 171 #[.slice a l.length cap,.func (.func 172) #[] #[.pointer (some ⟨B,0,none⟩)]] w fun e w'=>e= .returned (.slice a l.length cap)∧Below w.heap.size w w':=by
 have Uo:=hide hix;clear hix;go_enter Tryz.func171,Tryz.ntmps171
 go_wp2_with fail;refine Uo.mono ?_;rintro e w1 ⟨rfl,hb1⟩;have HB:=hide hb1;clear hb1 Uo;go_wp2_with fail;go_ret;exact⟨rfl,HB⟩
theorem Vv (B0:Nat) (a:Option Addr) (cap:Nat) (l:List jm) (B:Nat) (m:Mg) (w:World) (hl:l.length≤1000) (hp:l.Pairwise (fun s t=>s.i < t.i)) (hB:eZ w B m) (ho:w.ownsRow B0 95 4 (.slice a l.length cap) l.length (GR.flat aS l)):
 Calls Tryz.prog 171 #[.slice a l.length cap,.func (.func 172) #[] #[.pointer (some ⟨B,0,none⟩)]] w (Pv w B0 (.slice a l.length cap) (l.filter (fun s=> !gP m s))):=by
 have hat:SentAt w a l:=by
  obtain⟨a',cp,he,ha⟩:=GR.own_at (enc:=aS) (sz:=4) (l:=l) bH ho;cases he
  exact ha
 have hix:=VF a cap l B m w hl hat hB;by_cases h:mE l m < l.length
 ·rw [if_pos h] at hix;rw [Vn hp h];have hy:gP m l[mE l m]=true:=List.findIdx_getElem (w:=h);have hid:l[mE l m].i=m.I:=(of_decide_eq_true hy).1
  have hno:∀j (hj:j < l.length),mE l m < j→gP m l[j]=false:=fun j hj hlt=>by
   cases hq:gP m l[j] with
   |false=>rfl
   |true=>
    exfalso
    have h1:l[j].i=m.I:=(of_decide_eq_true hq).1
    have:=List.pairwise_iff_getElem.1 hp _ j h hj hlt
    omega
  open aj5 in exact Qy
 ·rw [if_neg h] at hix;rw [Q6 h];refine(Ec a cap l B w hix).mono ?_;rintro e w' ⟨rfl,hb⟩;exact⟨a,cap,rfl,GR.own_below ho hb,fP hb _,fun x hx=>hx⟩
set_option maxHeartbeats 4000000
theorem WK.setOut {w0 w w':World} {wb:Nat} {n:Nd} {A:bE} {G:aU} {c:Nat→Nat} {v:Value} {L:List Mg} {a:Option Addr} {cp:Nat} {l:List jm} (h:WK w0 w wb n A G c v L) (hg:w.grownBy w' (Value.slice A.o n.out.length A.co).ownBlock) (ho:w'.ownsRow w0.heap.size 95 4 (.slice a l.length cp) l.length (GR.flat aS l)) (hx:∀x,(Value.slice a l.length cp).ownBlock=some x→(Value.slice A.o n.out.length A.co).ownBlock=some x):
 w'.heap[wb]?=some (.cells (FE n A v) 74 (0,0))∧WK w0 (w'.setCell ⟨wb,5,none⟩ (.slice a l.length cp)) wb (setOut n l) ⟨A.k,A.p,a,A.s,A.r,A.ck,A.cp,cp,A.cs,A.cr⟩ G c v L:=by
 have hN:=h.no;have k3:KC c 3 w w':=KC.grown hg (fun x hx=>hN.co x hx);have hb1:=k3.obj h.blk (by rw [h.cw];omega);have k8:KC c 8 w' (w'.setCell ⟨wb,5,none⟩ (.slice a l.length cp)):=KC.set h.cw;have hbel:=k3.below h.keep hN.lo (by omega) h.keep.size;have hco:∀x,(Value.slice a l.length cp).ownBlock=some x→c x=3:=fun x hx'=>hN.co x (hx x hx')
 refine⟨hb1,k8.below hbel hN.lo (by omega) (Nat.le_trans h.keep.size k3.size),bg hb1 5 (.slice a l.length cp),⟨k8.w (k3.w hN.k hN.ck (by omega)) hN.ck (by omega),k8.w (k3.w hN.p hN.cp (by omega)) hN.cp (by omega),k8.own ho hco (by omega),k8.seen (k3.seen hN.s hN.c4 hN.ci (by omega) (by omega)) hN.c4 hN.ci (by omega) (by omega),k8.own (k3.own hN.r hN.cr (by omega)) hN.cr (by omega),hN.lo,hN.ck,hN.cp,hco,hN.c4,hN.ci,hN.cr,hN.ni⟩,k8.own (k3.own h.m h.cm (by omega)) h.cm (by omega),h.cm,h.cw⟩
theorem KN (w0 w:World) (wb:Nat) (n:Nd) (A:bE) (G:aU) (c:Nat→Nat) (v:Value) (L:List Mg) (o:jE) (hz:eH n 1048576) (hb:hasB n.kids o.m.F=false) (hK:o.m.K=0) (h:WK w0 w wb n A G c v L):Calls Tryz.prog 112 #[.pointer (some ⟨wb,0,none⟩),jH o] w fun e w'=>e= .returned (.int .i64 (eF n o.m).2.2)∧∃A' G' c' v',WK w0 w' wb (eF n o.m).1 A' G' c' v' (L++(eF n o.m).2.1):=by
 have HKD:=hide (fun w1 (ha:dQ w1 A n)=>xq n A o.m.F w1 (Nat.le_trans hz.k (by omega)) ha.k);rw [hb] at HKD
 have HR:Hid (eF n o.m=(n,[],1)):=by
  show eF n o.m=_
  unfold eF;rw [if_neg (by omega),if_neg (by omega),if_neg (by rw [hb];simp)]
 rw [ah HR];clear hz hb HR;open apN in exact alS
theorem Jm (w0 w:World) (wb:Nat) (n:Nd) (A:bE) (G:aU) (c:Nat→Nat) (v:Value) (L:List Mg) (o:jE) (E:Nat→Addr) (hz:eH n 1048576) (hok:dG n=true) (hm:bJ o.m=true) (hL:L.length≤2097100) (hb:hasB n.kids o.m.F=true) (hK:o.m.K=0) (h:WK w0 w wb n A G c v L) (he:gW w0 E):Calls Tryz.prog 112 #[.pointer (some ⟨wb,0,none⟩),jH o] w fun e w'=>e= .returned (.int .i64 (eF n o.m).2.2)∧∃A' G' c' v',WK w0 w' wb (eF n o.m).1 A' G' c' v' (L++(eF n o.m).2.1):=by
 have hw:=Dg hm hK;have HKD:=hide (fun w1 (ha:dQ w1 A n)=>xq n A o.m.F w1 (Nat.le_trans hz.k (by omega)) ha.k);rw [hb] at HKD;have za:=hide (fun W (hW:WK w0 W wb n A G c v L)=>aaj w0 W wb n A G c v L o.m.F o.m.k o.m.N E hok hw.1 hw.2.1 hw.2.2 hL hW he)
 have HR:Hid (eF n o.m=((dV n o.m.F o.m.k o.m.N).1,(dV n o.m.F o.m.k o.m.N).2.1,0)):=by
  show eF n o.m=_
  unfold eF;rw [if_neg (by omega),if_neg (by omega),if_pos hb]
 rw [ah HR];clear hz hok hm hL he HR hw hb;generalize dV n o.m.F o.m.k o.m.N=TT at *;open apM in exact alS
theorem xJ (w0 w:World) (wb:Nat) (n:Nd) (A:bE) (G:aU) (c:Nat→Nat) (v:Value) (L:List Mg) (o:jE) (E:Nat→Addr) (hz:eH n 1048576) (hok:dG n=true) (hm:bJ o.m=true) (hF:dB n o.m.F=true) (hks:o.m.k.size≤1048576) (hL:L.length≤2097100) (hb:(takeN n o.m).2=false) (hK:o.m.K=1) (h:WK w0 w wb n A G c v L) (he:gW w0 E):Calls Tryz.prog 112 #[.pointer (some ⟨wb,0,none⟩),jH o] w fun e w'=>e= .returned (.int .i64 (eF n o.m).2.2)∧∃A' G' c' v',WK w0 w' wb (eF n o.m).1 A' G' c' v' (L++(eF n o.m).2.1):=by
 have hw:=zW hm hK;have Ls:=hide (fun W (hW:WK w0 W wb n A G c v L)=>TL w0 W wb n A G c v L o.m E hz hok hF hks hw.2.2.2.1 (by omega) hw.2.1 hW he);rw [hb] at Ls
 have HR:Hid (eF n o.m=((takeN n o.m).1,[],1)):=by
  show eF n o.m=_
  unfold eF;rw [if_pos hK,hb];rfl
 open akw in exact Yo
theorem yJ (w0 w:World) (wb:Nat) (n:Nd) (A:bE) (G:aU) (c:Nat→Nat) (v:Value) (L:List Mg) (o:jE) (E:Nat→Addr) (hz:eH n 1048576) (hok:dG n=true) (hm:bJ o.m=true) (hF:dB n o.m.F=true) (hks:o.m.k.size≤1048576) (hL:L.length≤2097100) (hb:(takeN n o.m).2=true) (hK:o.m.K=1) (h:WK w0 w wb n A G c v L) (he:gW w0 E):Calls Tryz.prog 112 #[.pointer (some ⟨wb,0,none⟩),jH o] w fun e w'=>e= .returned (.int .i64 (eF n o.m).2.2)∧∃A' G' c' v',WK w0 w' wb (eF n o.m).1 A' G' c' v' (L++(eF n o.m).2.1):=by
 have hw:=zW hm hK;have Ls:=hide (fun W (hW:WK w0 W wb n A G c v L)=>TL w0 W wb n A G c v L o.m E hz hok hF hks hw.2.2.2.1 (by omega) hw.2.1 hW he);rw [hb] at Ls
 have HR:Hid (eF n o.m=((takeN n o.m).1,[Np n o.m],0)):=by
  show eF n o.m=_
  unfold eF;rw [if_pos hK,hb];rfl
 open akv in exact Yo
theorem KJ (w0 w:World) (wb:Nat) (n:Nd) (A:bE) (G:aU) (c:Nat→Nat) (v:Value) (L:List Mg) (o:jE) (hok:dG n=true) (hK:o.m.K=2) (h:WK w0 w wb n A G c v L):Calls Tryz.prog 112 #[.pointer (some ⟨wb,0,none⟩),jH o] w fun e w'=>e= .returned (.int .i64 (eF n o.m).2.2)∧∃A' G' c' v',WK w0 w' wb (eF n o.m).1 A' G' c' v' (L++(eF n o.m).2.1):=by
 have ho:=og (bq hok).2.2.2.2.1;have HDL:=hide (fun W B (hB:eZ W B o.m) hO=>Vv w0.heap.size A.o A.co n.out B o.m W (by omega) ho.1 hB hO);unfold Pv at HDL
 have HR:Hid (eF n o.m=(setOut n (n.out.filter (fun s=> !gP o.m s)),[],0)):=by
  show eF n o.m=_
  unfold eF;rw [if_neg (by omega),if_pos hK]
 rw [ah HR];clear hok ho HR;open ahH in exact Qq
theorem ab1 (w0 w:World) (wb:Nat) (n:Nd) (A:bE) (G:aU) (c:Nat→Nat) (v:Value) (L:List Mg) (o:jE) (E:Nat→Addr) (hz:eH n 1048576) (hok:dG n=true) (hm:bJ o.m=true) (hF:dB n o.m.F=true) (hks:o.m.k.size≤1048576) (hL:L.length≤2097100) (h:WK w0 w wb n A G c v L) (he:gW w0 E):Calls Tryz.prog 112 #[.pointer (some ⟨wb,0,none⟩),jH o] w fun e w'=>e= .returned (.int .i64 (eF n o.m).2.2)∧∃A' G' c' v',WK w0 w' wb (eF n o.m).1 A' G' c' v' (L++(eF n o.m).2.1):=by
 rcases Df hm with hK|hK|hK
 ·cases hb:hasB n.kids o.m.F with
  |false=>exact KN w0 w wb n A G c v L o hz hb hK h
  |true=>exact Jm w0 w wb n A G c v L o E hz hok hm hL hb hK h he
 ·cases hb:(takeN n o.m).2 with
  |false=>exact xJ w0 w wb n A G c v L o E hz hok hm hF hks hL hb hK h he
  |true=>exact yJ w0 w wb n A G c v L o E hz hok hm hF hks hL hb hK h he
 ·exact KJ w0 w wb n A G c v L o hok hK h
set_option maxHeartbeats 2000000
theorem D9 (v:Value) (w:World):(Instr.typeAssert (.iface 154 v) 105 154 true).run Tryz.prog w= .ok (.tuple #[v,.bool true]) w:=by kernel_rfl
theorem Gn (v:Value) (w:World):(Instr.typeAssert (.iface 156 v) 105 154 true).run Tryz.prog w= .ok (.tuple #[.agg #[.int .i64 0,.int .i64 0,.string ⟨#[]⟩,.int .i64 0],.bool false]) w:=by kernel_rfl
theorem JQ (v:Value) (w:World):(Instr.typeAssert (.iface 156 v) 105 156 true).run Tryz.prog w= .ok (.tuple #[v,.bool true]) w:=by kernel_rfl
theorem Gm (v:Value) (w:World):(Instr.typeAssert (.iface 158 v) 105 154 true).run Tryz.prog w= .ok (.tuple #[.agg #[.int .i64 0,.int .i64 0,.string ⟨#[]⟩,.int .i64 0],.bool false]) w:=by kernel_rfl
theorem JO (v:Value) (w:World):(Instr.typeAssert (.iface 158 v) 105 156 true).run Tryz.prog w= .ok (.tuple #[.agg #[.int .i64 0,.int .i64 0,.int .i64 0,.int .i64 0,.string ⟨#[]⟩,.int .i64 0],.bool false]) w:=by kernel_rfl
theorem JN (v:Value) (w:World):(Instr.typeAssert (.iface 158 v) 105 158 true).run Tryz.prog w= .ok (.tuple #[v,.bool true]) w:=by kernel_rfl
theorem tX (F T:Int) (k:ByteArray) (N:Int) (w:World):Calls Tryz.prog 135 #[.iface 154 (.agg #[.int .i64 F,.int .i64 T,.string k,.int .i64 N])] w fun e w'=>e= .returned (nX ⟨0,F,T,0,0,k,N⟩)∧Below w.heap.size w w':=by
 have f0:=D9 (.agg #[.int .i64 F,.int .i64 T,.string k,.int .i64 N]);go_enter Tryz.func135,Tryz.ntmps135
 go_wp2_with fail;refine bodyPost_ret (v:= .agg #[.int .i64 0,.int .i64 F,.int .i64 T,.int .i64 0,.int .i64 0,.string k,.int .i64 N]) (by simp[results,Tryz.results135,go_sem];try rfl) rfl ⟨rfl,?_⟩;exact QS
theorem Ol (F T I L:Int) (k:ByteArray) (N:Int) (w:World):Calls Tryz.prog 135 #[.iface 156 (.agg #[.int .i64 F,.int .i64 T,.int .i64 I,.int .i64 L,.string k,.int .i64 N])] w fun e w'=>e= .returned (nX ⟨1,F,T,I,L,k,N⟩)∧Below w.heap.size w w':=by
 have f0:=Gn (.agg #[.int .i64 F,.int .i64 T,.int .i64 I,.int .i64 L,.string k,.int .i64 N]);have f1:=JQ (.agg #[.int .i64 F,.int .i64 T,.int .i64 I,.int .i64 L,.string k,.int .i64 N]);go_enter Tryz.func135,Tryz.ntmps135
 go_wp2_with fail;refine bodyPost_ret (v:= .agg #[.int .i64 1,.int .i64 F,.int .i64 T,.int .i64 I,.int .i64 L,.string k,.int .i64 N]) (by simp[results,Tryz.results135,go_sem];try rfl) rfl ⟨rfl,?_⟩;exact QS
theorem rM (F T I:Int) (w:World):Calls Tryz.prog 135 #[.iface 158 (.agg #[.int .i64 F,.int .i64 T,.int .i64 I])] w fun e w'=>e= .returned (nX ⟨2,F,T,I,0,ByteArray.empty,0⟩)∧Below w.heap.size w w':=by
 have f0:=Gm (.agg #[.int .i64 F,.int .i64 T,.int .i64 I]);have f1:=JO (.agg #[.int .i64 F,.int .i64 T,.int .i64 I]);have f2:=JN (.agg #[.int .i64 F,.int .i64 T,.int .i64 I]);go_enter Tryz.func135,Tryz.ntmps135
 go_wp2_with fail;refine bodyPost_ret (v:= .agg #[.int .i64 2,.int .i64 F,.int .i64 T,.int .i64 I,.int .i64 0,.string ByteArray.empty,.int .i64 0]) (by simp[results,Tryz.results135,go_sem];try rfl) rfl ⟨rfl,?_⟩;exact QS
end Go.Proofs.YtacgbldlonoaaaaGreatDoor
