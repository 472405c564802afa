/- Parts. -/
import Derived.Test.YtfmdndhliinhpaaGreatDoorRa22
namespace Go.Proofs.YtfmdndhliinhpaaGreatDoor
set_option maxHeartbeats 4000000
set_option maxRecDepth 100000
open Go.RowKit
open Mth
abbrev avx (s:jH):Value:= .agg #[.int .i64 s.i,.int .i64 s.t,.string s.k,.int .i64 s.n]
theorem OO (s:jH) (B:Nat) (m:Mg) (w:World) (hB:fE w B m):
 Calls Tryz.prog 88 #[avx s,.pointer (some ⟨B,0,none⟩)] w fun e w'=>e= .returned (.bool (gK m s))∧Below w.heap.size w w':=by
 have hBl:=aA hB;obtain⟨⟨p0,p1,p2,p3,p4,p5,p6⟩,_⟩:=ig hB;clear hB;obtain⟨mK,mF,mT,mI,mL,mk,mN⟩:=m;obtain⟨si,st,sk,sn⟩:=s;unfold gK;dsimp only at *;by_cases h1:si=mI
 ·by_cases h2:st=mF
  ·subst h1 h2;go_enter Tryz.func88,Tryz.ntmps88
   go_wp2_with fail;go_ret;exact⟨by simp,ay w _⟩
  ·have q2:(st == mF)=false:=by simpa using h2
   subst h1;go_enter Tryz.func88,Tryz.ntmps88
   go_wp2_with fail;go_ret;exact⟨by simp[h2],ay w _⟩
 ·have q1:(si == mI)=false:=by simpa using h1
  go_enter Tryz.func88,Tryz.ntmps88
  go_wp2_with fail;go_ret;exact⟨by simp[h1],ay w _⟩
def nJ (l:List jH) (m:Mg):Nat:=l.findIdx (gK m)
theorem Yt (a:Option Addr) (cap:Nat) (l:List jH) (B:Nat) (m:Mg) (w:World) (hl:l.length≤1000) (ha:SentAt w a l) (hB:fE w B m):
 Calls Tryz.prog 118 #[.slice a l.length cap,.func (.func 88) #[] #[.pointer (some ⟨B,0,none⟩)]] w fun e w'=>e= .returned (.int .i64 (if nJ l m < l.length then(nJ l m:Int) else -1))∧Below w.heap.size w w':=by
 have HC:=hide (fun s w1 (hb:Below w.heap.size w w1)=>OO s B m w1 (au hB hb));have HA:=hide ha
 have HN:Hid (∀i (hi:i < l.length),i < nJ l m→gK m l[i]=false):=fun i hi h=>by
  have:=List.not_of_lt_findIdx h
  simpa using this
 have HY:Hid (∀(hi:nJ l m < l.length),gK m l[nJ l m]=true):=fun hi=>List.findIdx_getElem (w:=hi)
 have HLE:Hid (nJ l m≤l.length):=List.findIdx_le_length;clear ha hB;generalize nJ l m=R at *;go_enter Tryz.func118,Tryz.ntmps118
 go_wp2_with fail;go_loopw [8] (fun i wr=>∃k:Nat,k≤R∧i= .int .i64 k∧Below w.heap.size w wr) (fun i _=>l.length - (intOf i).toNat)
 case atStart=>exact OG
 case round=>
  obtain⟨k,hk,rfl,hbw⟩:=hrel;have HB:=hide hbw;by_cases hkl:k < l.length
  ·have auZ:(k:Int) < (l.length:Int):=by omega
   obtain⟨g,off,e0,hg,q0,q1,q2,q3⟩:=SentAt.four (GR.At.below HA hbw) k hkl;have HCk:=hide (HC l[k]);have Xt:=hide (HN k hkl)
   have HYk:Hid (k=R→gK m l[k]=true):=fun e=>by
    subst e
    exact HY hkl
   subst e0;clear hbw HC HN HY;generalize l[k]=sk at *;obtain⟨si,st,sx,sn⟩:=sk;dsimp only at q0 q1 q2 q3 HCk Xt HYk;by_cases hR:k=R
   ·have hq:=ah HYk hR;subst hR;open ale in exact Oq
   ·have hq:=ah Xt (by omega);open ald in exact Oq
  ·have hRl:¬R < l.length:=by omega
   have hke:k=l.length:=by have:=ah HLE;omega
   subst hke;have hnlt:decide ((l.length:Int) < (l.length:Int))=false:=by simp
   go_wp2_with fail;go_ret;exact⟨by simp,HB⟩
abbrev zS:List Value:=[.int .i64 0,.int .i64 0,.string ⟨#[]⟩,.int .i64 0]
theorem Dl (w:World) (ty:TypeId) (g o c:Nat) (cur:Array Value) (hg:w.heap[g]?=some (.cells cur 55 (0,0))) (hfit:o+4≤cur.size):
 (Builtin.clear_ #[26] ty #[.slice (some ⟨g,o,none⟩) 1 c]).run Tryz.prog w= .ok (.tuple #[]) (w.setRow g (cur.toList.take o++zS++cur.toList.drop (o+4)).toArray):=by
 have hst:=run_storeCells_at Tryz.prog g o 55 zS 0 cur w hg (by simpa using hfit) (by intro u hu;simp only[zS,List.mem_cons,List.not_mem_nil,or_false] at hu;rcases hu with rfl|rfl|rfl|rfl<;>rfl);have hzc:(Builtin.zeroCells (Value.cells (.agg #[.int .i64 0,.int .i64 0,.string ⟨#[]⟩,.int .i64 0])) 1).toList=zS:=by kernel_rfl
 have h1:(Builtin.clear_ #[26] ty #[.slice (some ⟨g,o,none⟩) 1 c]).run Tryz.prog w=((storeCells ⟨g,o,none⟩ zS).run Tryz.prog w).andThen fun _ w'=> .ok (.tuple #[]) w':=by
  simp[Builtin.clear_,run_underlying Tryz.underlying26];rw [hzc]
 rw [h1,hst];rfl
theorem lS (l:List jH):(GR.flat aU l).length=l.length*4:=GR.flat_length aU 4 cu l
theorem J9:∀(vs a b:List Value) (o:Nat),o+vs.length≤a.length→GR.setRun (a++b) o vs=GR.setRun a o vs++b:=by
 intro vs;induction vs with
 |nil=>intro a b o _;rfl
 |cons v vs ih=>
  intro a b o h
  simp only[List.length_cons] at h
  show GR.setRun ((a++b).set o v) (o+1) vs=GR.setRun (a.set o v) (o+1) vs++b
  rw [List.set_append_left _ _ (by omega),ih _ _ _ (by rw [List.length_set];omega)]
abbrev SB (w:World) (g:Nat) (R:List jH) (rest:List Value):Prop:=w.heap[g]?=some (.cells (GR.flat aU R++rest).toArray 55 (0,0))
theorem SB.four {w:World} {g:Nat} {R:List jH} {rest:List Value} (h:SB w g R rest) (i:Nat) (hi:i < R.length):w.cell? ⟨g,i*4,none⟩=some (.int .i64 R[i].i)∧w.cell? ⟨g,i*4+1,none⟩=some (.int .i64 R[i].t)∧w.cell? ⟨g,i*4+2,none⟩=some (.string R[i].k)∧w.cell? ⟨g,i*4+3,none⟩=some (.int .i64 R[i].n):=by
 have hc:∀j,j < 4→w.cell? ⟨g,i*4+j,none⟩=(aU R[i])[j]?:=fun j hj=>by
  rw [cell_of_row w g _ _ 55 (0,0) h,List.getElem?_toArray,List.getElem?_append_left (by rw [lS];omega)]
  exact GR.flat_at aU 4 cu R i hi j hj
 exact⟨hc 0 (by omega),hc 1 (by omega),hc 2 (by omega),hc 3 (by omega)⟩
theorem SB.set {w:World} {g:Nat} {R:List jH} {rest:List Value} (h:SB w g R rest) (i:Nat) (hi:i < R.length) (x:jH):SB (GR.setW w g (i*4) (aU x)) g (R.set i x) rest:=by
 have h2:=GR.setW_blk (aU x) (o:=i*4) h;rw [J9 _ _ _ _ (by rw [lS,cu];omega),GR.flat_set aU 4 cu R i x hi] at h2;exact h2
namespace Mth
def kJ (l:List jH) (i k:Nat):List jH:=(l.eraseIdx i).take k++l.drop k
theorem Ml {l:List jH} {i:Nat} (h:i < l.length):kJ l i i=l:=by
 unfold kJ;rw [List.eraseIdx_eq_take_drop_succ,List.take_append_of_le_length (by rw [List.length_take];omega),List.take_take,Nat.min_self,List.take_append_drop]
theorem Jk {l:List jH} {i k:Nat} (h:i < l.length) (hk:k < l.length):(kJ l i k).length=l.length:=by
 unfold kJ;rw [List.length_append,List.length_take,List.length_eraseIdx_of_lt h,List.length_drop];omega
theorem Yg {l:List jH} {i k:Nat} (h:i < l.length) (hk:k+1 < l.length):(kJ l i k)[k+1]?=some l[k+1]:=by
 unfold kJ;rw [List.getElem?_append_right (by rw [List.length_take,List.length_eraseIdx_of_lt h];omega),List.length_take,List.length_eraseIdx_of_lt h,List.getElem?_drop];rw [show k+(k+1 - min k (l.length - 1))=k+1 by omega,List.getElem?_eq_getElem hk]
theorem P5 {l:List jH} {i k:Nat} (h:i≤k) (hk:k+1 < l.length):(kJ l i k).set k l[k+1]=kJ l i (k+1):=by
 have hlt:(List.take k (l.eraseIdx i)).length=k:=by rw [List.length_take,List.length_eraseIdx_of_lt (by omega)];omega
 unfold kJ;rw [List.set_append_right _ _ (by omega),hlt,Nat.sub_self,List.drop_eq_getElem_cons (show k < l.length by omega),List.set_cons_zero];have hke:k < (l.eraseIdx i).length:=by rw [List.length_eraseIdx_of_lt (by omega)];omega
 rw [List.take_succ_eq_append_getElem hke,List.getElem_eraseIdx_of_ge hke h,List.append_assoc];rfl
theorem Uw {l:List jH} {i:Nat} (h:i < l.length):kJ l i (l.length - 1)=l.eraseIdx i++l.drop (l.length - 1):=by
 unfold kJ;rw [List.take_of_length_le (by rw [List.length_eraseIdx_of_lt h];omega)]
theorem Uf {l:List jH} {m:Mg} (h:¬nJ l m < l.length):l.filter (fun s=> !gK m s)=l:=by
 rw [List.filter_eq_self];intro s hs;have h1:¬∃x∈l,gK m x=true:=fun hx=>h (List.findIdx_lt_length_of_exists hx)
 cases hq:gK m s with
 |false=>rfl
 |true=>exact absurd ⟨s,hs,hq⟩ h1
theorem XV {l:List jH} {m:Mg} (hp:l.Pairwise (fun s t=>s.i < t.i)) (h:nJ l m < l.length):l.filter (fun s=> !gK m s)=l.eraseIdx (nJ l m):=by
 have hy:gK m l[nJ l m]=true:=List.findIdx_getElem (w:=h);have hid:l[nJ l m].i=m.I:=(of_decide_eq_true hy).1
 have hno:∀j (hj:j < l.length),j≠nJ l m→gK m l[j]=false:=fun j hj hne=>by
  cases hq:gK m l[j] with
  |false=>rfl
  |true=>
   exfalso
   have h1:l[j].i=m.I:=(of_decide_eq_true hq).1
   rcases Nat.lt_or_gt_of_ne hne with hlt|hgt
   ·have:=List.pairwise_iff_getElem.1 hp j _ hj h hlt;omega
   ·have:=List.pairwise_iff_getElem.1 hp _ j h hj hgt;omega
 have e:l=l.take (nJ l m)++l[nJ l m]::l.drop (nJ l m+1):=by rw [←List.drop_eq_getElem_cons h,List.take_append_drop]
 rw [List.eraseIdx_eq_take_drop_succ];generalize nJ l m=R at *;have ef:l.filter (fun s=> !gK m s)=(l.take R++l[R]::l.drop (R+1)).filter (fun s=> !gK m s):=by rw [←e]
 rw [ef,List.filter_append,List.filter_cons_of_neg (by rw [hy];simp)];congr 1
 ·rw [List.filter_eq_self];intro s hs;obtain⟨j,hj,rfl⟩:=List.mem_iff_getElem.1 hs;rw [List.length_take] at hj;rw [List.getElem_take,hno j (by omega) (by omega)];rfl
 ·rw [List.filter_eq_self];intro s hs;obtain⟨j,hj,rfl⟩:=List.mem_iff_getElem.1 hs;rw [List.length_drop] at hj;rw [List.getElem_drop,hno (R+1+j) (by omega) (by omega)];rfl
end Mth
theorem Mi (g cap:Nat) (l:List jH) (rest:List Value) (B R:Nat) (m:Mg) (w:World) (hl:l.length≤1000) (hR:R < l.length) (hno:∀j (hj:j < l.length),R < j→gK m l[j]=false) (hnc:l.length≤cap) (hcm:cap≤maxLen) (hrl:l.length*4+rest.length=cap*4) (hB:fE w B m) (hS:SB w g l rest)
 (hix:Calls Tryz.prog 118 #[.slice (some ⟨g,0,none⟩) l.length cap,.func (.func 88) #[] #[.pointer (some ⟨B,0,none⟩)]] w fun e w'=>e= .returned (.int .i64 (R:Int))∧Below w.heap.size w w'):
 Calls Tryz.prog 87 #[.slice (some ⟨g,0,none⟩) l.length cap,.func (.func 88) #[] #[.pointer (some ⟨B,0,none⟩)]] w fun e w'=>e= .returned (.slice (some ⟨g,0,none⟩) (l.length - 1) cap)∧(∃acJ,SB w' g (l.eraseIdx R) acJ∧(l.length - 1)*4+acJ.length=cap*4)∧w.grownBy w' (some g):=by
 have hne:B≠g:=fun e=>by
  unfold fE at hB
  unfold SB at hS
  rw [e,hS] at hB
  simp at hB
 have HC:=hide (fun s w1 (hg:w.grownBy w1 (some g))=>OO s B m w1 ((hg.block B (aA hB) (fun e=>hne (by injection e))).trans hB));have l7:=hide hno;have HS0:=hide hS;have Xg:=hide hix;have hRI:¬((R:Int)= -1):=by omega
 have hRb:((R:Int) == -1)=false:=beq_eq_false_iff_ne.2 hRI;clear hB hno hS hix hne;go_enter Tryz.func87,Tryz.ntmps87
 go_wp2_with fail;refine Xg.mono ?_;rintro e w1 ⟨rfl,hb1⟩;have mW:=hide (au HS0 hb1);have HG1:=hide (gD hb1 (some g));clear hb1 Xg;go_wp2_with fail;go_loopw [5,6] (fun i j wr=>∃k jj:Nat,jj=k+1∧R≤k∧k < l.length∧i= .int .i64 k∧j= .int .i64 jj∧SB wr g (kJ l R k) rest∧w.grownBy wr (some g)) (fun i j _=>l.length - (intOf j).toNat)
 case atStart=>exact⟨R,R+1,rfl,Nat.le_refl _,hR,rfl,rfl,by rw [Ml hR];exact mW,HG1⟩
 case round=>
  obtain⟨k,jj,hjj,hk1,hk2,rfl,rfl,hSk,hGk⟩:=hrel;have HJJ:=hide hjj;have Zz:=hide hSk;have HGk:=hide hGk;have hgl:=aA hSk;clear hSk hGk;by_cases hlt:k+1 < l.length
  ·have Jm:(jj:Int) < (l.length:Int):=by omega
   have hkI:(k:Int) < (l.length:Int):=by omega
   have arH:k+1 < (kJ l R k).length:=by rw [Jk hR hk2];exact hlt
   have hqs:=SB.four Zz (k+1) arH
   have hat:(kJ l R k)[k+1]=l[k+1]:=by
    have:=Yg hR hlt;rw [List.getElem?_eq_getElem arH] at this;exact Option.some.inj this
   rw [hat] at hqs;have HST:=hide (P5 hk1 hlt);have Xt:=hide (l7 (k+1) hlt (by omega));have HCk:=hide (HC l[k+1]);clear hat;generalize l[k+1]=sk at *;rw [←hjj] at hqs;obtain⟨q0,q1,q2,q3⟩:=hqs;clear hjj;obtain⟨si,st,sx,sn⟩:=sk;dsimp only at q0 q1 q2 q3 Xt HCk;go_upto_region 8 with fail;refine wp_at (fun W hW=>?_);have e1:W.heap[wr.heap.size]?=some (.cells #[.int .i64 si,.int .i64 st,.string sx,.int .i64 sn] 55 (0,0)):=by rw [hW];exact heap_alloc_new _ _
   have iJ:Hid (Below wr.heap.size wr W):=by rw [hW];exact ay wr _
   obtain⟨c0,c1,c2,c3⟩:=fC e1;have hwl:=aA e1;have E1:=hide e1;clear hW e1 q0 q1 q2 q3;go_wp2_with fail;refine(HCk W (HGk.andThen (gD iJ none) (fun j hj=>by cases hj))).mono ?_;rintro e W2 ⟨rfl,hb2⟩;have E2:=hide (au E1 hb2);have HB2:=hide (iJ.trans (hb2.mono iJ.size));have HS2:=hide (au Zz HB2);have HG2:=hide (HGk.andThen (gD HB2 none) (fun j hj=>by cases hj));have arM:k < (kJ l R k).length:=by omega
   obtain⟨r0,r1,r2,r3⟩:=SB.four HS2 k arM;have f0:=aj HS2 (k*4);have f1:=aj HS2 (k*4+1);have f2:=aj HS2 (k*4+2);have f3:=aj HS2 (k*4+3);have av0:=aA HS2;have ad8:=aA E2;rw [ah Xt];clear c0 c1 c2 c3 hb2;obtain⟨c0,c1,c2,c3⟩:=fC E2;have IC:=hide (SB.set HS2 k arM ⟨si,st,sx,sn⟩)
   have Zb:Hid (W2.grownBy (GR.setW W2 g (k*4) (aU ⟨si,st,sx,sn⟩)) (some g)):=by
    have h:=aM (g:=g) (aU ⟨si,st,sx,sn⟩) W2 (k*4);exact⟨h.os,h.tape,h.output,h.size,fun x hx hne=>h.block x hx (fun hm=>hne (by have:x=g:=(by simpa using hm);rw [this]))⟩
   rw [ah HST] at IC;go_wp2_with fail;go_roundw
   case rel=>exact⟨k+1,jj+1,by have:=ah HJJ;omega,by omega,hlt,by go_num,by go_num,IC,HG2.andThen Zb (fun j hj=> .inr hj)⟩
   case measure=>simp[intOf];omega
  ·have hke:l.length - 1=k:=by omega
   have hjl:jj=l.length:=by omega
   have adL:l.length - k=1:=by omega
   have arI:=Jk hR hk2;have hend:=Uw hR;rw [hke] at hend;have hel:(l.eraseIdx R).length=k:=by rw [List.length_eraseIdx_of_lt hR];exact hke
   have hXl:(GR.flat aU (kJ l R k)++rest).length=cap*4:=by rw [List.length_append,lS,arI];exact hrl
   have hcl:∀ty c,(Builtin.clear_ #[26] ty #[.slice (some ⟨g,k*4,none⟩) 1 c]).run Tryz.prog wr= .ok (.tuple #[]) (wr.setRow g ((GR.flat aU (kJ l R k)++rest).take (k*4)++zS++(GR.flat aU (kJ l R k)++rest).drop (k*4+4)).toArray):=fun ty c=>by
    have h:=Dl wr ty g (k*4) c _ Zz (by rw [List.size_toArray,hXl];omega)
    exact h
   have HFB:Hid (SB (wr.setRow g ((GR.flat aU (kJ l R k)++rest).take (k*4)++zS++(GR.flat aU (kJ l R k)++rest).drop (k*4+4)).toArray) g (l.eraseIdx R) (zS++(GR.flat aU (kJ l R k)++rest).drop (k*4+4))):=by
    have h:=setRow_heap wr g _ ((GR.flat aU (kJ l R k)++rest).take (k*4)++zS++(GR.flat aU (kJ l R k)++rest).drop (k*4+4)).toArray 55 _ Zz
    have ht:(GR.flat aU (kJ l R k)++rest).take (k*4)=GR.flat aU (l.eraseIdx R):=by
     rw [hend,GR.flat_append,List.append_assoc];exact List.take_left' (by rw [lS,hel])
    rw [ht] at h;show SB _ g (l.eraseIdx R) _
    unfold SB;rw [←List.append_assoc,ht];exact h
   have Xz:Hid (k*4+(zS++(GR.flat aU (kJ l R k)++rest).drop (k*4+4)).length=cap*4):=by
    show k*4+(zS++(GR.flat aU (kJ l R k)++rest).drop (k*4+4)).length=cap*4
    rw [List.length_append,List.length_drop,hXl];show k*4+(4+_)=_
    omega
   have HGF:Hid (w.grownBy (wr.setRow g ((GR.flat aU (kJ l R k)++rest).take (k*4)++zS++(GR.flat aU (kJ l R k)++rest).drop (k*4+4)).toArray) (some g)):=by
    refine HGk.andThen (row':=some g) ⟨rfl,rfl,rfl,by simp,fun x hx hne=>setRow_other wr g x _ (fun e=>hne (by rw [e]))⟩ (fun j hj=> .inr hj)
   have hkc:k≤cap:=by omega
   have hkI:(k:Int)≤(l.length:Int):=by omega
   have awc:(k:Int)≤(cap:Int):=by omega
   have hcm2:cap≤9223372036854775807:=by unfold maxLen at hcm;omega
   have HKE:=hide hke;generalize (GR.flat aU (kJ l R k)++rest).take (k*4)++zS++(GR.flat aU (kJ l R k)++rest).drop (k*4+4)=X2 at *;subst hjl;have hnlt:decide ((l.length:Int) < (l.length:Int))=false:=by simp
   clear HC l7 HS0 mW HG1 Zz HGk hend hXl hel arI hlt hke;go_wp2_with (simp only[adL,hcl])
   go_ret;exact⟨by rw [ah HKE];first|done|rfl,⟨_,HFB,by rw [ah HKE];exact Xz⟩,HGF⟩
def Rn (w:World) (B:Nat) (v:Value) (l:List jH) (e:Ending) (w':World):Prop:=∃a c,e= .returned (.slice a l.length c)∧w'.ownsRow B 55 4 (.slice a l.length c) l.length (GR.flat aU l)∧w.grownBy w' v.ownBlock∧∀x,(Value.slice a l.length c).ownBlock=some x→v.ownBlock=some x
theorem FD (a:Option Addr) (cap:Nat) (l:List jH) (B:Nat) (w:World)
 (hix:Calls Tryz.prog 118 #[.slice a l.length cap,.func (.func 88) #[] #[.pointer (some ⟨B,0,none⟩)]] w fun e w'=>e= .returned (.int .i64 (-1))∧Below w.heap.size w w'):
 Calls Tryz.prog 87 #[.slice a l.length cap,.func (.func 88) #[] #[.pointer (some ⟨B,0,none⟩)]] w fun e w'=>e= .returned (.slice a l.length cap)∧Below w.heap.size w w':=by
 have Xg:=hide hix;clear hix;go_enter Tryz.func87,Tryz.ntmps87
 go_wp2_with fail;refine Xg.mono ?_;rintro e w1 ⟨rfl,hb1⟩;have HB:=hide hb1;clear hb1 Xg;go_wp2_with fail;go_ret;exact⟨rfl,HB⟩
theorem Yc (B0:Nat) (a:Option Addr) (cap:Nat) (l:List jH) (B:Nat) (m:Mg) (w:World) (hl:l.length≤1000) (hp:l.Pairwise (fun s t=>s.i < t.i)) (hB:fE w B m) (ho:w.ownsRow B0 55 4 (.slice a l.length cap) l.length (GR.flat aU l)):
 Calls Tryz.prog 87 #[.slice a l.length cap,.func (.func 88) #[] #[.pointer (some ⟨B,0,none⟩)]] w (Rn w B0 (.slice a l.length cap) (l.filter (fun s=> !gK m s))):=by
 have hat:SentAt w a l:=by
  obtain⟨a',cp,he,ha⟩:=GR.own_at (enc:=aU) (sz:=4) (l:=l) cu ho;cases he
  exact ha
 have hix:=Yt a cap l B m w hl hat hB;by_cases h:nJ l m < l.length
 ·rw [if_pos h] at hix;rw [XV hp h];have hy:gK m l[nJ l m]=true:=List.findIdx_getElem (w:=h);have hid:l[nJ l m].i=m.I:=(of_decide_eq_true hy).1
  have hno:∀j (hj:j < l.length),nJ l m < j→gK m l[j]=false:=fun j hj hlt=>by
   cases hq:gK m l[j] with
   |false=>rfl
   |true=>
    exfalso
    have h1:l[j].i=m.I:=(of_decide_eq_true hq).1
    have:=List.pairwise_iff_getElem.1 hp _ j h hj hlt
    omega
  open anE in exact Tj
 ·rw [if_neg h] at hix;rw [Uf h];refine(FD a cap l B w hix).mono ?_;rintro e w' ⟨rfl,hb⟩;exact⟨a,cap,rfl,GR.own_below ho hb,gD hb _,fun x hx=>hx⟩
set_option maxHeartbeats 4000000
theorem WK.setOut {w0 w w':World} {wb:Nat} {n:Nd} {A:bQ} {G:aX} {c:Nat→Nat} {v:Value} {L:List Mg} {a:Option Addr} {cp:Nat} {l:List jH} (h:WK w0 w wb n A G c v L) (hg:w.grownBy w' (Value.slice A.o n.out.length A.co).ownBlock) (ho:w'.ownsRow w0.heap.size 55 4 (.slice a l.length cp) l.length (GR.flat aU l)) (hx:∀x,(Value.slice a l.length cp).ownBlock=some x→(Value.slice A.o n.out.length A.co).ownBlock=some x):
 w'.heap[wb]?=some (.cells (Ll n A v) 50 (0,0))∧WK w0 (w'.setCell ⟨wb,5,none⟩ (.slice a l.length cp)) wb (setOut n l) ⟨A.k,A.p,a,A.s,A.r,A.ck,A.cp,cp,A.cs,A.cr⟩ G c v L:=by
 have hN:=h.no;have k3:KC c 3 w w':=KC.grown hg (fun x hx=>hN.co x hx);have hb1:=k3.obj h.blk (by rw [h.cw];omega);have k8:KC c 8 w' (w'.setCell ⟨wb,5,none⟩ (.slice a l.length cp)):=KC.set h.cw;have hbel:=k3.below h.keep hN.lo (by omega) h.keep.size;have hco:∀x,(Value.slice a l.length cp).ownBlock=some x→c x=3:=fun x hx'=>hN.co x (hx x hx')
 refine⟨hb1,k8.below hbel hN.lo (by omega) (Nat.le_trans h.keep.size k3.size),bg hb1 5 (.slice a l.length cp),⟨k8.w (k3.w hN.k hN.ck (by omega)) hN.ck (by omega),k8.w (k3.w hN.p hN.cp (by omega)) hN.cp (by omega),k8.own ho hco (by omega),k8.seen (k3.seen hN.s hN.c4 hN.ci (by omega) (by omega)) hN.c4 hN.ci (by omega) (by omega),k8.own (k3.own hN.r hN.cr (by omega)) hN.cr (by omega),hN.lo,hN.ck,hN.cp,hco,hN.c4,hN.ci,hN.cr,hN.ni⟩,k8.own (k3.own h.m h.cm (by omega)) h.cm (by omega),h.cm,h.cw⟩
theorem Np (w0 w:World) (wb:Nat) (n:Nd) (A:bQ) (G:aX) (c:Nat→Nat) (v:Value) (L:List Mg) (o:iK) (hz:eF n 1048576) (hb:hasB n.kids o.m.F=false) (hK:o.m.K=0) (h:WK w0 w wb n A G c v L):Calls Tryz.prog 52 #[.pointer (some ⟨wb,0,none⟩),jY o] w fun e w'=>e= .returned (.int .i64 (eD n o.m).2.2)∧∃A' G' c' v',WK w0 w' wb (eD n o.m).1 A' G' c' v' (L++(eD n o.m).2.1):=by
 have HKD:=hide (fun w1 (ha:dQ w1 A n)=>yH n A o.m.F w1 (Nat.le_trans hz.k (by omega)) ha.k);rw [hb] at HKD
 have HR:Hid (eD n o.m=(n,[],1)):=by
  show eD n o.m=_
  unfold eD;rw [if_neg (by omega),if_neg (by omega),if_neg (by rw [hb];simp)]
 rw [ah HR];clear hz hb HR;open afz in exact apC
theorem KU (w0 w:World) (wb:Nat) (n:Nd) (A:bQ) (G:aX) (c:Nat→Nat) (v:Value) (L:List Mg) (o:iK) (E:Nat→Addr) (hz:eF n 1048576) (hok:dJ n=true) (hm:dw o.m=true) (hL:L.length≤2097100) (hb:hasB n.kids o.m.F=true) (hK:o.m.K=0) (h:WK w0 w wb n A G c v L) (he:iw w0 E):Calls Tryz.prog 52 #[.pointer (some ⟨wb,0,none⟩),jY o] w fun e w'=>e= .returned (.int .i64 (eD n o.m).2.2)∧∃A' G' c' v',WK w0 w' wb (eD n o.m).1 A' G' c' v' (L++(eD n o.m).2.1):=by
 have hw:=EA hm hK;have HKD:=hide (fun w1 (ha:dQ w1 A n)=>yH n A o.m.F w1 (Nat.le_trans hz.k (by omega)) ha.k);rw [hb] at HKD;have AO:=hide (fun W (hW:WK w0 W wb n A G c v L)=>acK w0 W wb n A G c v L o.m.F o.m.k o.m.N E hok hw.1 hw.2.1 hw.2.2 hL hW he)
 have HR:Hid (eD n o.m=((eu n o.m.F o.m.k o.m.N).1,(eu n o.m.F o.m.k o.m.N).2.1,0)):=by
  show eD n o.m=_
  unfold eD;rw [if_neg (by omega),if_neg (by omega),if_pos hb]
 rw [ah HR];clear hz hok hm hL he HR hw hb;generalize eu n o.m.F o.m.k o.m.N=TT at *;open afy in exact apC
theorem yY (w0 w:World) (wb:Nat) (n:Nd) (A:bQ) (G:aX) (c:Nat→Nat) (v:Value) (L:List Mg) (o:iK) (E:Nat→Addr) (hz:eF n 1048576) (hok:dJ n=true) (hm:dw o.m=true) (hF:dH n o.m.F=true) (hks:o.m.k.size≤1048576) (hL:L.length≤2097100) (hb:(takeN n o.m).2=false) (hK:o.m.K=1) (h:WK w0 w wb n A G c v L) (he:iw w0 E):Calls Tryz.prog 52 #[.pointer (some ⟨wb,0,none⟩),jY o] w fun e w'=>e= .returned (.int .i64 (eD n o.m).2.2)∧∃A' G' c' v',WK w0 w' wb (eD n o.m).1 A' G' c' v' (L++(eD n o.m).2.1):=by
 have hw:=BM hm hK;have Ob:=hide (fun W (hW:WK w0 W wb n A G c v L)=>Wv w0 W wb n A G c v L o.m E hz hok hF hks hw.2.2.2.1 (by omega) hw.2.1 hW he);rw [hb] at Ob
 have HR:Hid (eD n o.m=((takeN n o.m).1,[],1)):=by
  show eD n o.m=_
  unfold eD;rw [if_pos hK,hb];rfl
 open an6 in exact aaX
theorem Ab (w0 w:World) (wb:Nat) (n:Nd) (A:bQ) (G:aX) (c:Nat→Nat) (v:Value) (L:List Mg) (o:iK) (E:Nat→Addr) (hz:eF n 1048576) (hok:dJ n=true) (hm:dw o.m=true) (hF:dH n o.m.F=true) (hks:o.m.k.size≤1048576) (hL:L.length≤2097100) (hb:(takeN n o.m).2=true) (hK:o.m.K=1) (h:WK w0 w wb n A G c v L) (he:iw w0 E):Calls Tryz.prog 52 #[.pointer (some ⟨wb,0,none⟩),jY o] w fun e w'=>e= .returned (.int .i64 (eD n o.m).2.2)∧∃A' G' c' v',WK w0 w' wb (eD n o.m).1 A' G' c' v' (L++(eD n o.m).2.1):=by
 have hw:=BM hm hK;have Ob:=hide (fun W (hW:WK w0 W wb n A G c v L)=>Wv w0 W wb n A G c v L o.m E hz hok hF hks hw.2.2.2.1 (by omega) hw.2.1 hW he);rw [hb] at Ob
 have HR:Hid (eD n o.m=((takeN n o.m).1,[LZ n o.m],0)):=by
  show eD n o.m=_
  unfold eD;rw [if_pos hK,hb];rfl
 open an5 in exact aaX
theorem Nn (w0 w:World) (wb:Nat) (n:Nd) (A:bQ) (G:aX) (c:Nat→Nat) (v:Value) (L:List Mg) (o:iK) (hok:dJ n=true) (hK:o.m.K=2) (h:WK w0 w wb n A G c v L):Calls Tryz.prog 52 #[.pointer (some ⟨wb,0,none⟩),jY o] w fun e w'=>e= .returned (.int .i64 (eD n o.m).2.2)∧∃A' G' c' v',WK w0 w' wb (eD n o.m).1 A' G' c' v' (L++(eD n o.m).2.1):=by
 have ho:=pO (bf hok).2.2.2.2.1;have HDL:=hide (fun W B (hB:fE W B o.m) hO=>Yc w0.heap.size A.o A.co n.out B o.m W (by omega) ho.1 hB hO);unfold Rn at HDL
 have HR:Hid (eD n o.m=(setOut n (n.out.filter (fun s=> !gK o.m s)),[],0)):=by
  show eD n o.m=_
  unfold eD;rw [if_neg (by omega),if_pos hK]
 rw [ah HR];clear hok ho HR;open alf in exact SL
theorem aeG (w0 w:World) (wb:Nat) (n:Nd) (A:bQ) (G:aX) (c:Nat→Nat) (v:Value) (L:List Mg) (o:iK) (E:Nat→Addr) (hz:eF n 1048576) (hok:dJ n=true) (hm:dw o.m=true) (hF:dH n o.m.F=true) (hks:o.m.k.size≤1048576) (hL:L.length≤2097100) (h:WK w0 w wb n A G c v L) (he:iw w0 E):Calls Tryz.prog 52 #[.pointer (some ⟨wb,0,none⟩),jY o] w fun e w'=>e= .returned (.int .i64 (eD n o.m).2.2)∧∃A' G' c' v',WK w0 w' wb (eD n o.m).1 A' G' c' v' (L++(eD n o.m).2.1):=by
 rcases yN hm with hK|hK|hK
 ·cases hb:hasB n.kids o.m.F with
  |false=>exact Np w0 w wb n A G c v L o hz hb hK h
  |true=>exact KU w0 w wb n A G c v L o E hz hok hm hL hb hK h he
 ·cases hb:(takeN n o.m).2 with
  |false=>exact yY w0 w wb n A G c v L o E hz hok hm hF hks hL hb hK h he
  |true=>exact Ab w0 w wb n A G c v L o E hz hok hm hF hks hL hb hK h he
 ·exact Nn w0 w wb n A G c v L o hok hK h
set_option maxHeartbeats 2000000
theorem Fv (v:Value) (w:World):(Instr.typeAssert (.iface 140 v) 116 140 true).run Tryz.prog w= .ok (.tuple #[v,.bool true]) w:=by kernel_rfl
theorem I7 (v:Value) (w:World):(Instr.typeAssert (.iface 142 v) 116 140 true).run Tryz.prog w= .ok (.tuple #[.agg #[.int .i64 0,.int .i64 0,.string ⟨#[]⟩,.int .i64 0],.bool false]) w:=by kernel_rfl
theorem Md (v:Value) (w:World):(Instr.typeAssert (.iface 142 v) 116 142 true).run Tryz.prog w= .ok (.tuple #[v,.bool true]) w:=by kernel_rfl
theorem I5 (v:Value) (w:World):(Instr.typeAssert (.iface 144 v) 116 140 true).run Tryz.prog w= .ok (.tuple #[.agg #[.int .i64 0,.int .i64 0,.string ⟨#[]⟩,.int .i64 0],.bool false]) w:=by kernel_rfl
theorem Mc (v:Value) (w:World):(Instr.typeAssert (.iface 144 v) 116 142 true).run Tryz.prog w= .ok (.tuple #[.agg #[.int .i64 0,.int .i64 0,.int .i64 0,.int .i64 0,.string ⟨#[]⟩,.int .i64 0],.bool false]) w:=by kernel_rfl
theorem Ma (v:Value) (w:World):(Instr.typeAssert (.iface 144 v) 116 144 true).run Tryz.prog w= .ok (.tuple #[v,.bool true]) w:=by kernel_rfl
theorem uW (F T:Int) (k:ByteArray) (N:Int) (w:World):Calls Tryz.prog 122 #[.iface 140 (.agg #[.int .i64 F,.int .i64 T,.string k,.int .i64 N])] w fun e w'=>e= .returned (qd ⟨0,F,T,0,0,k,N⟩)∧Below w.heap.size w w':=by
 have f0:=Fv (.agg #[.int .i64 F,.int .i64 T,.string k,.int .i64 N]);go_enter Tryz.func122,Tryz.ntmps122
 go_wp2_with fail;refine bodyPost_ret (v:= .agg #[.int .i64 0,.int .i64 F,.int .i64 T,.int .i64 0,.int .i64 0,.string k,.int .i64 N]) (by simp[results,Tryz.results122,go_sem];try rfl) rfl ⟨rfl,?_⟩;exact TR
theorem Qx (F T I L:Int) (k:ByteArray) (N:Int) (w:World):Calls Tryz.prog 122 #[.iface 142 (.agg #[.int .i64 F,.int .i64 T,.int .i64 I,.int .i64 L,.string k,.int .i64 N])] w fun e w'=>e= .returned (qd ⟨1,F,T,I,L,k,N⟩)∧Below w.heap.size w w':=by
 have f0:=I7 (.agg #[.int .i64 F,.int .i64 T,.int .i64 I,.int .i64 L,.string k,.int .i64 N]);have f1:=Md (.agg #[.int .i64 F,.int .i64 T,.int .i64 I,.int .i64 L,.string k,.int .i64 N]);go_enter Tryz.func122,Tryz.ntmps122
 go_wp2_with fail;refine bodyPost_ret (v:= .agg #[.int .i64 1,.int .i64 F,.int .i64 T,.int .i64 I,.int .i64 L,.string k,.int .i64 N]) (by simp[results,Tryz.results122,go_sem];try rfl) rfl ⟨rfl,?_⟩;exact TR
theorem tO (F T I:Int) (w:World):Calls Tryz.prog 122 #[.iface 144 (.agg #[.int .i64 F,.int .i64 T,.int .i64 I])] w fun e w'=>e= .returned (qd ⟨2,F,T,I,0,ByteArray.empty,0⟩)∧Below w.heap.size w w':=by
 have f0:=I5 (.agg #[.int .i64 F,.int .i64 T,.int .i64 I]);have f1:=Mc (.agg #[.int .i64 F,.int .i64 T,.int .i64 I]);have f2:=Ma (.agg #[.int .i64 F,.int .i64 T,.int .i64 I]);go_enter Tryz.func122,Tryz.ntmps122
 go_wp2_with fail;refine bodyPost_ret (v:= .agg #[.int .i64 2,.int .i64 F,.int .i64 T,.int .i64 I,.int .i64 0,.string ByteArray.empty,.int .i64 0]) (by simp[results,Tryz.results122,go_sem];try rfl) rfl ⟨rfl,?_⟩;exact TR
end Go.Proofs.YtfmdndhliinhpaaGreatDoor
