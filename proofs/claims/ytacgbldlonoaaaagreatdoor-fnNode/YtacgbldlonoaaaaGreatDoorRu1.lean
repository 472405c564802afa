/- Parts. -/
import Derived.Test.YtacgbldlonoaaaaGreatDoorRt2
namespace Go.Proofs.YtacgbldlonoaaaaGreatDoor
open Go.RowKit
open Mth
namespace Mth
theorem awq {id par:Int} {kids:List Int} (h:(Io id par kids).2=true):dG (Io id par kids).1=true:=by
 unfold Io at h ⊢;split
 ·rename_i h1
  exact abK _ _ _ _ h1 rfl
 ·rename_i h1
  rw [if_neg h1] at h;cases h
theorem awr {id par:Int} {kids:List Int} (h:kids.length≤5):eH (Io id par kids).1 1048576:=by
 unfold Io;split
 ·refine⟨by simp[dw];omega,by simp[dw],by simp[dw],?_,by simp[dw],fun x hx=>by simp[dw] at hx,fun x hx=>by simp[dw] at hx,fun x hx=>?_,fun x hx=>by simp[dw] at hx⟩
  ·show(List.map _ (Dt (iM (dw id par kids [])))).length≤1048576
   rw [List.length_map,kQ];unfold iM dw;dsimp only;split<;>simp<;>omega
  ·obtain⟨y,_,rfl⟩:=List.mem_map.1 hx;simp
 ·exact⟨by simp[mV],by simp[mV],by simp[mV],by simp[mV],by simp[mV],fun x hx=>by simp[mV] at hx,fun x hx=>by simp[mV] at hx,fun x hx=>by simp[mV] at hx,fun x hx=>by simp[mV] at hx⟩
end Mth
set_option maxHeartbeats 2000000
set_option maxRecDepth 100000
namespace Mth
theorem awg {k:ByteArray}:∀{l:List jm},(∀x∈l,1≤x.n∧x.n≤1000000000)→0≤asy k l∧asy k l≤1000000000*l.length
 |[],_=>⟨Int.le_refl _,Int.le_refl _⟩
 |x::l,h=>by
  have h1:=h x (by simp)
  have h2:=awg (k:=k) (l:=l) (fun y hy=>h y (by simp[hy]))
  unfold asy
  rw [List.length_cons]
  split<;>omega
theorem awi {k:ByteArray} {l:List jm} {j:Nat} (hj:j < l.length):asy k (l.take (j+1))=asy k (l.take j)+(if l[j].k=k then l[j].n else 0):=by
 rw [List.take_succ_eq_append_getElem hj,ath];simp[asy]
theorem awp {l:List Pu} {k:ByteArray} (h:ig l=true) (hk:keyOk k.data.toList=true):0≤asG l k∧asG l k≤2000000000:=by
 have h1:=uj (key:=k) h hk;unfold fH mW at h1;simp only[Bool.and_eq_true,decide_eq_true_eq] at h1;unfold asG;omega
theorem av6 {n:Nd} {k:ByteArray} (h:dG n=true) (hk:keyOk k.data.toList=true) (j:Nat): -9000000000≤asG n.pu k+asy k (n.out.take j)∧asG n.pu k+asy k (n.out.take j)≤90000000000:=by
 obtain⟨_,hps,_,_,hout,_⟩:=bq h;obtain⟨_,h40,hall⟩:=og hout;have h1:=awp (k:=k) hps hk
 have h2:=awg (k:=k) (l:=n.out.take j) (fun x hx=>by
  have:=hall x (List.mem_of_mem_take hx)
  unfold qy eD at this
  simp only[Bool.and_eq_true,decide_eq_true_eq] at this
  omega)
 have h3:(n.out.take j).length≤40:=by rw [List.length_take];omega
 omega
theorem awo {n m:Nd} {k:ByteArray} (h1:dG n=true) (h2:dG m=true) (hk:keyOk k.data.toList=true):IntKind.i64.wrap (aso m k - aso n k)=aso m k - aso n k:=by
 have b1:=av6 (k:=k) h1 hk n.out.length;have b2:=av6 (k:=k) h2 hk m.out.length;rw [List.take_length] at b1 b2;unfold aso;exact IntWalk.i64_in _ ⟨by omega,by omega⟩
theorem awk {n:Nd} {o:jE} (h:(Pn n o).2.2=3):Pn n o=(n,[],3):=by
 unfold Pn at h ⊢;split
 ·rename_i h1
  rw [if_pos h1] at h;unfold kR at h ⊢;split
  ·rename_i h2
   rw [if_pos h2] at h;exfalso
   revert h
   unfold dW eP aX eF;repeat' split
   all_goals (dsimp only;first|decide|(split<;>decide))
  ·rfl
 ·rfl
end Mth
theorem awf (n:Nd) (A:bE) (k:ByteArray) (w:World) (hz:eH n 1048576) (hok:dG n=true) (hk:keyOk k.data.toList=true) (hks:k.size≤1048576) (ha:dQ w A n):
 Calls Tryz.prog 21 #[gu n A,.string k] w fun e w'=>e= .returned (.int .i64 (aso n k))∧Below w.heap.size w w':=by
 have hzo:=hz.o;have HBD:=hide (av6 (k:=k) hok hk);have hb0:=av6 (k:=k) hok hk 0;have HH:=hide (fun W (ha:aH W A.p n.pu)=>Z4 A.p A.cp n.pu k W (by have:=hz.p;omega) hz.pk hks ha);have HA:=hide ha;have hall:aso n k=asG n.pu k+asy k (n.out.take n.out.length):=by rw [List.take_length];rfl
 have HAL:=hide hall;simp only[List.take_zero,asy,Int.add_zero] at hb0
 have hwr:wrap64 ((aF n.pu k).f+(aF n.pu k).s)=asG n.pu k:=by
  rw [IntWalk.wrap64_in _ (by unfold asG at hb0;omega)];rfl
 rw [hwr] at HH;have HW:=hide (fun j=>show IntKind.i64.wrap (asG n.pu k+asy k (n.out.take j))=asG n.pu k+asy k (n.out.take j) from IntWalk.i64_in _ ⟨by have:=ah HBD j;omega,by have:=ah HBD j;omega⟩);clear hz hok hk ha hall hwr hb0 HBD;generalize aso n k=R at *;generalize asG n.pu k=h0 at *;obtain⟨id,par,kids,next,pu,out,seen,old,reqs⟩:=n;obtain⟨ak,ap,ao,as',ar,ck,cp,co,cs,cr⟩:=A;dsimp only at hzo HH HAL HW;go_enter Tryz.func21,Tryz.ntmps21
 go_upto_region 1 with fail;refine wp_at (fun W1 hW1=>?_);have hbw:Below w.heap.size w W1:=by rw [hW1];exact au w _
 have HP:=hide (show W1.heap[w.heap.size]?=some (.cells #[.int .i64 id,.int .i64 par,.slice ak kids.length ck,.int .i64 next,.slice ap pu.length cp,.slice ao out.length co,.slice as' seen.length cs,.int .i64 old,.slice ar reqs.length cr] 30 (0,0)) by rw [hW1];exact heap_alloc_new _ _);have HB1:=hide hbw;have HA1:=hide (HA.below hbw);clear hW1 hbw HA;obtain⟨c0,c1,c2,c3,c4,c5,c6,c7,c8⟩:=nine HP;go_wp2_with fail;refine(HH W1 HA1.p).mono ?_;rintro e w2 ⟨rfl,hb2⟩;have HB2:=hide (HB1.trans (hb2.mono HB1.size));have UH:=hide (GR.At.below HA1.o hb2);have xK:=hide (aj HP hb2);clear hb2 HB1 HA1 HP HH c0 c1 c2 c3 c4 c5 c6 c7 c8;obtain⟨c0,c1,c2,c3,c4,c5,c6,c7,c8⟩:=nine xK;clear c0 c1 c2 c3 c4 c6 c7 c8;go_wp2_with fail;go_loopw [5,6] (fun s i wr=>∃j:Nat,j≤out.length∧i= .int .i64 j∧s= .int .i64 (h0+asy k (out.take j))∧wr=w2) (fun _ i _=>out.length - (intOf i).toNat)
 case atStart=>exact⟨0,Nat.zero_le _,rfl,by simp[asy],rfl⟩
 case round=>
  obtain⟨j,hj,rfl,rfl,rfl⟩:=hrel;by_cases hlt:j < out.length
  ·obtain⟨g1,o1,rfl,hg1,s0,s1,s2,s3⟩:=SentAt.four UH j hlt;have hst:=awi (k:=k) hlt;have hwj:=ah HW (j+1);rw [hst] at hwj;have HST:=hide hst;clear hst HW;generalize out[j]=x at *;obtain⟨xi,xt,xk,xn⟩:=x;dsimp only at s0 s1 s2 s3 hwj HST;by_cases hkk:xk=k
   ·subst hkk;rw [if_pos rfl] at hwj HST;have awR:IntKind.i64.wrap (h0+asy xk (out.take j)+xn)=h0+asy xk (out.take j)+xn:=by rw [show h0+asy xk (out.take j)+xn=h0+(asy xk (out.take j)+xn) by omega];exact hwj
    have hb:(xk.toList == xk.toList)=true:=by simp
    clear hwj;go_wp2_with fail;go_roundw
    case rel=>exact⟨j+1,by omega,by go_num,by rw [ah HST,Int.add_assoc],trivial⟩
    case measure=>simp[intOf];omega
   ·have hb:(xk.toList == k.toList)=false:=beq_eq_false_iff_ne.2 (fun e=>hkk (Mth.toList_inj e));rw [if_neg hkk,Int.add_zero] at HST;clear hwj;go_wp2_with fail;go_roundw
    case rel=>exact⟨j+1,by omega,by go_num,by rw [ah HST],trivial⟩
    case measure=>simp[intOf];omega
  ·have hje:j=out.length:=by omega
   subst hje;have hnlt:decide ((out.length:Int) < (out.length:Int))=false:=by simp
   have hR:=ah HAL;go_wp2_with fail;go_ret;exact⟨by rw [hR];rfl,HB2⟩
end Go.Proofs.YtacgbldlonoaaaaGreatDoor
