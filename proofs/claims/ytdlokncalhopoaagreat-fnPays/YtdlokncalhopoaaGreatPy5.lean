/- Parts. -/
import Derived.Test.YtdlokncalhopoaaGreatPy4
import Derived.Test.YtdlokncalhopoaaGreatPy3
import Derived.Lib.QuietBelow
import Derived.Deep.DeepCutAuto
import Derived.Deep.CutBlock
namespace Go.Proofs.YtdlokncalhopoaaGreat
set_option maxHeartbeats 8000000
set_option maxRecDepth 100000
open Go.RowKit
open Mth
theorem cell_grown' {w:World} {a:Addr} {v:Value} (h:w.cell? a=some v):∀d os,(Sort.grow (redrawn w d) os).cell? a=some v:=fun d os=>cell_regrown h d os
theorem rNear (n:Nd) (A:Ads) (x:Int) (b:Bool) (wc:World) (hl:n.kids.length≤1048600) (ha:IntsAt wc A.k n.kids) (hb:nearB n x=b):∀d os,Calls Tryz.prog 22 #[ndv n A,.int .i64 x] (Sort.grow (redrawn wc d) os) fun e w''=>e= .returned (.bool b)∧∃p:Regrown,w''=Sort.grow (redrawn wc p.d) p.os:=fun d os=>by
 rw [←hb]
 exact Calls.regrown_of (specNear n A x _ hl (GR.At.below ha (below_regrown wc d os)))
theorem rSome (x:Int) (b:Bool) (wc:World) (hb:smB x=b):∀d os,Calls Tryz.prog 19 #[.int .i64 x] (Sort.grow (redrawn wc d) os) fun e w''=>e= .returned (.bool b)∧∃p:Regrown,w''=Sort.grow (redrawn wc p.d) p.os:=fun _ _=>
 Calls.regrown_of ((l04Some x b _ hb).mono fun _ _ ⟨he,hw⟩=>⟨he,hw▸Below.refl _ _⟩)
theorem qIn (x a b:Int) (r:Bool) (hb:decide (a≤x∧x≤b)=r) (W:World) (n:Nat):Calls Tryz.prog 21 #[.int .i64 x,.int .i64 a,.int .i64 b] (W.drewN n) fun e w''=>e= .returned (.bool r)∧∃m,w''=W.drewN m:=
 (l01InR x a b r _ hb).mono fun _ _ ⟨he,hw⟩=>⟨he,n,hw.symm⟩
theorem three {w:World} {g:Nat} {v0 v1 v2:Value} {t:TypeId} (h:w.heap[g]?=some (.cells #[v0,v1,v2] t (0,0))):
 w.cell? ⟨g,0,none⟩=some v0∧w.cell? ⟨g,1,none⟩=some v1∧w.cell? ⟨g,2,none⟩=some v2:=by
 have hc:∀i,w.cell? ⟨g,i,none⟩=#[v0,v1,v2][i]?:=fun i=>cell_of_row w g i _ t (0,0) h
 exact⟨hc 0,hc 1,hc 2⟩
theorem specTold (n:Nd) (A:Ads) (w:World) (hl:n.kids.length≤1048600) (hl2:n.seen.length≤1048600) (hl3:∀s∈n.seen,s.ids.length≤1048600) (ha:IntsAt w A.k n.kids) (hs:SeenAt w A.s n.seen):
 Calls Tryz.prog 18 #[ndv n A] w fun e w'=>e= .returned (.bool (toldB n))∧Below w.heap.size w w':=by
 have HA:=hide ha
 have HS:=hide hs
 have HL3:=hide hl3
 have HD:Hid (toldB n=(decide ((n.seen.length:Int)=n.kids.length+(if 0≤n.par then 1 else 0))&&chk (fun s=>nearB n s.f&&snB s) (fun s t=>ltB s.f t.f) n.seen)):=rfl
 have HCB:=hide (fun k h=>chk_bad (fun s=>nearB n s.f&&snB s) (fun s t=>ltB s.f t.f) n.seen k h)
 have HCF:=hide (chk_first (fun s=>nearB n s.f&&snB s) (fun s t=>ltB s.f t.f) n.seen)
 have HCN:=hide (chk_next (fun s=>nearB n s.f&&snB s) (fun s t=>ltB s.f t.f) n.seen)
 have HNR:=hide (fun x b wc (ha:IntsAt wc A.k n.kids) (hb:nearB n x=b)=>rNear n A x b wc hl ha hb)
 have HBX:=hide (heap_alloc_new w (.cells (ndc n A) 30))
 clear ha hs hl3
 generalize hpp:(fun s=>nearB n s.f&&snB s)=PP at *
 have HPP:Hid (∀s,PP s=(nearB n s.f&&snB s)):=by intro s;rw [←hpp]
 clear hpp
 generalize hrr:(fun s t:Sn=>ltB s.f t.f)=RR at *
 have HRR:Hid (∀s t,RR s t=ltB s.f t.f):=by intro s t;rw [←hrr]
 clear hrr
 generalize hnn:nearB n=NN at *
 clear hnn
 generalize htt:toldB n=TT at *
 clear htt
 obtain⟨id,par,kids,next,pu,out,seen,old,reqs⟩:=n
 obtain⟨ak,ap,ao,as',ar,ck,cp,co,cs,cr⟩:=A
 dsimp only at hl hl2 HA HS HL3 HD HCB HCF HCN HNR HBX ⊢
 go_enter Tryz.func18,Tryz.ntmps18
 go_upto_if 12 with fail
 refine wp_at (fun W0 hW0=>?_)
 have HB0:Hid (W0.heap[w.heap.size]?=some (.cells (ndc ⟨id,par,kids,next,pu,out,seen,old,reqs⟩ ⟨ak,ap,ao,as',ar,ck,cp,co,cs,cr⟩) 30 (0,0))):=by rw [hW0];exact unhide HBX
 have HL0:Hid (Below w.heap.size w W0):=by rw [hW0];exact below_one w _
 clear hW0 HBX
 obtain⟨al,hal⟩:∃al:Int,(kids.length:Int)+(if 0≤par then 1 else 0)=al:=⟨_,rfl⟩
 rw [hal] at HD
 go_cut [3] (fun r wx=>r= .int .i64 al∧wx=W0)
 case first=>
  by_cases hp:0≤par
  ·rw [if_pos hp] at hal
   have HAL:=hide hal
   clear hal
   go_wp2_with fail
   go_meet
   case rel=>exact⟨by rw [←unhide HAL],rfl⟩
  ·rw [if_neg hp] at hal
   have HAL:=hide hal
   clear hal
   go_wp2_with fail
   go_meet
   case rel=>exact⟨by rw [←unhide HAL,Int.add_zero],rfl⟩
 case rest=>
  obtain⟨rfl,rfl⟩:=hcut
  clear hal
  obtain⟨c0,c1,c2,c3,c4,c5,c6,_⟩:=nine (unhide HB0)
  by_cases hlen:(seen.length:Int)=al
  case' neg=>
   have hbn:((seen.length:Int) != al)=true:=by simpa using hlen
   have HP:Hid (TT=false):=by rw [unhide HD,decide_eq_false hlen];rfl
   clear hlen HD HCB HCF HCN HNR HPP HRR
   go_wp2_with fail
   go_ret
   exact⟨ret_bool (unhide HP).symm,unhide HL0⟩
  have hbn:((seen.length:Int) != al)=false:=by simpa using hlen
  have HOK:Hid (TT=chk PP RR seen):=by rw [unhide HD,decide_eq_true hlen];rfl
  clear hlen HD
  go_wp2_with fail
  go_loopw [4] (fun i wr=>∃k:Nat,k≤seen.length∧i= .int .i64 k∧chk PP RR (seen.take k)=true∧wr.heap[w.heap.size]?=some (.cells (ndc ⟨id,par,kids,next,pu,out,seen,old,reqs⟩ ⟨ak,ap,ao,as',ar,ck,cp,co,cs,cr⟩) 30 (0,0))∧Below w.heap.size w wr) (fun i _=>seen.length - (intOf i).toNat)
  case atStart=>exact⟨0,Nat.zero_le _,rfl,rfl,unhide HB0,unhide HL0⟩
  case round=>
   obtain⟨k,hk,rfl,hall,hblk,hbel⟩:=hrel
   have HALL:=hide hall
   have HBL:=hide hbel
   have HBK:=hide hblk
   obtain⟨c0,c1,c2,c3,c4,c5,c6,_⟩:=nine hblk
   clear hall hbel hblk
   by_cases hlt:k < seen.length
   case' neg=>
    have hke:k=seen.length:=by omega
    subst hke
    have hnlt:decide ((seen.length:Int) < (seen.length:Int))=false:=by simp
    have HF:Hid (TT=true):=by
     have h:=unhide HALL
     rw [List.take_length] at h
     exact(unhide HOK).trans h
    go_wp2_with fail
    go_ret
    exact⟨ret_bool (unhide HF).symm,unhide HBL⟩
   have HBAD:Hid (chk PP RR (seen.take (k+1))=false→TT=false):=fun h=>(unhide HOK).trans (unhide HCB _ h)
   obtain⟨g,off,b,c,e0,hgw,q0,q1,q2,hI⟩:=SeenAt.below (unhide HS) (unhide HBL) k hlt
   have hids:(seen[k]).ids.length≤1048600:=unhide HL3 _ (List.getElem_mem hlt)
   have HI:=hide hI
   have HIDS:=hide hids
   clear hI hids
   have HPV:Hid (∃pv:Bool,chk PP RR (seen.take (k+1))=((NN (seen[k]).f&&snB seen[k])&&pv)∧((k=0∧pv=true)∨∃(j:Nat) (y:Int),k=j+1∧pv=decide (y < (seen[k]).f)∧wr.cell? ⟨g,off+j*3,none⟩=some (.int .i64 y))):=by
    cases k with
    |zero=>
     refine⟨true,?_,.inl ⟨rfl,rfl⟩⟩
     have h:=unhide HCF hlt
     rw [Bool.and_true]
     exact h
    |succ j=>
     obtain⟨g',off',_,_,e2,_,p0,_⟩:=SeenAt.below (unhide HS) (unhide HBL) j (by omega)
     rw [e0] at e2
     injection e2 with e2
     injection e2 with e2 e3
     subst e2 e3
     refine⟨_,?_,.inr ⟨j,_,rfl,rfl,p0⟩⟩
     have h:=unhide HCN j hlt
     rw [unhide HALL] at h
     exact h
   subst e0
   generalize hsk:seen[k]=sk at *
   clear hsk
   obtain⟨fr,lo,ids⟩:=sk
   dsimp only at q0 q1 q2 HI HIDS HPV
   obtain⟨pv,hpv,hpk⟩:=unhide HPV
   have HNX:=hide hpv
   have HPK:=hide hpk
   obtain⟨bb,hbb⟩:∃bb,(!(NN fr&&pv&&smB lo&&decide (ids.length≤40)))=bb:=⟨_,rfl⟩
   have HBB:=hide hbb
   clear hpv hpk HPV hbb HCF HCN HCB
   go_upto_region 10 with fail
   refine wp_at (fun W1 hW1=>?_)
   have HW1:Hid (W1.heap[wr.heap.size]?=some (.cells #[.int .i64 fr,.int .i64 lo,.slice b ids.length c] 71 (0,0))):=by rw [hW1];exact heap_alloc_new _ _
   have hbw:Below wr.heap.size wr W1:=by rw [hW1];exact below_one wr _
   have HBK1:=hide (obj_step (unhide HBK) hbw)
   have HBL1:=hide ((unhide HBL).trans (hbw.mono (unhide HBL).size))
   have HI1:=hide (GR.At.below (unhide HI) hbw)
   have hgw1:=hbw.size
   have HKI:=hide (GR.At.below (unhide HA) (unhide HBL1))
   have HPK1:Hid ((k=0∧pv=true)∨∃(j:Nat) (y:Int),k=j+1∧pv=decide (y < fr)∧W1.cell? ⟨g,off+j*3,none⟩=some (.int .i64 y)):=by
    rcases unhide HPK with h|⟨j,y,h1,h2,h3⟩
    ·exact .inl h
    ·exact .inr ⟨j,y,h1,h2,(hbw.cell (p:=⟨g,off+j*3,none⟩) hgw).trans h3⟩
   clear hW1 hbw q0 q1 q2 c0 c1 c2 c3 c4 c5 c6 HPK HI HBK
   obtain⟨d0,d1,d2⟩:=three (unhide HW1)
   obtain⟨c0,c1,c2,c3,c4,c5,c6,c7,c8⟩:=nine (unhide HBK1)
   have k0:=cell_grown' c0
   have k1:=cell_grown' c1
   have k2:=cell_grown' c2
   have k3:=cell_grown' c3
   have k4:=cell_grown' c4
   have k5:=cell_grown' c5
   have k6:=cell_grown' c6
   have k7:=cell_grown' c7
   have k8:=cell_grown' c8
   have m0:=cell_grown' d0
   have m1:=cell_grown' d1
   have m2:=cell_grown' d2
   go_cut [64] (fun r wx=>r= .bool bb∧Below W1.heap.size W1 wx)
   case first=>
    rcases unhide HPK1 with⟨rfl,rfl⟩|⟨j,y,rfl,rfl,q1⟩
    ·have hgt:decide ((0:Int) < ((0:Nat):Int))=false:=rfl
     cases h1:NN fr
     case' false=>
      have cN:=unhide HNR fr false W1 (unhide HKI) h1
      have HV:=hide (show bb=true by rw [←unhide HBB];simp[h1])
      clear HBB
      refine wp_region_quiet_below (by kernel_rfl) (by kernel_rfl) ?_
      repeat (first|go_big_quiet_step ((first|(go_at_call 22;exact cN _ _)|(go_at_call 19;exact cS _ _)))|quiet_step ((first|(go_at_call 22;exact cN _ _)|(go_at_call 19;exact cS _ _))))
      refine wpQuiet_nil ?_
      intro _ hw'
      obtain⟨⟨dq,osq⟩,hw''⟩:=hw'
      subst hw''
      go_wp2_with fail
      go_meet
      case rel=>exact⟨by rw [unhide HV],below_regrown _ dq osq⟩
     have cN:=unhide HNR fr true W1 (unhide HKI) h1
     cases h3:smB lo
     case' false=>
      have cS:=rSome lo false W1 h3
      have HV:=hide (show bb=true by rw [←unhide HBB];simp[h3])
      clear HBB
      refine wp_region_quiet_below (by kernel_rfl) (by kernel_rfl) ?_
      repeat (first|go_big_quiet_step ((first|(go_at_call 22;exact cN _ _)|(go_at_call 19;exact cS _ _)))|quiet_step ((first|(go_at_call 22;exact cN _ _)|(go_at_call 19;exact cS _ _))))
      refine wpQuiet_nil ?_
      intro _ hw'
      obtain⟨⟨dq,osq⟩,hw''⟩:=hw'
      subst hw''
      go_wp2_with fail
      go_meet
      case rel=>exact⟨by rw [unhide HV],below_regrown _ dq osq⟩
     have cS:=rSome lo true W1 h3
     by_cases h4:ids.length≤40
     case' neg=>
      have hq:decide ((40:Int) < ids.length)=true:=decide_eq_true (by omega)
      have HV:=hide (show bb=true by rw [←unhide HBB];simp[h4])
      clear HBB
      refine wp_region_quiet_below (by kernel_rfl) (by kernel_rfl) ?_
      repeat (first|go_big_quiet_step ((first|(go_at_call 22;exact cN _ _)|(go_at_call 19;exact cS _ _)))|quiet_step ((first|(go_at_call 22;exact cN _ _)|(go_at_call 19;exact cS _ _))))
      refine wpQuiet_nil ?_
      intro _ hw'
      obtain⟨⟨dq,osq⟩,hw''⟩:=hw'
      subst hw''
      go_wp2_with fail
      go_meet
      case rel=>exact⟨by rw [unhide HV],below_regrown _ dq osq⟩
     have hq:decide ((40:Int) < ids.length)=false:=decide_eq_false (by omega)
     have HV:=hide (show bb=false by rw [←unhide HBB];simp[h1,h3,h4])
     clear HBB
     refine wp_region_quiet_below (by kernel_rfl) (by kernel_rfl) ?_
     repeat (first|go_big_quiet_step ((first|(go_at_call 22;exact cN _ _)|(go_at_call 19;exact cS _ _)))|quiet_step ((first|(go_at_call 22;exact cN _ _)|(go_at_call 19;exact cS _ _))))
     refine wpQuiet_nil ?_
     intro _ hw'
     obtain⟨⟨dq,osq⟩,hw''⟩:=hw'
     subst hw''
     go_wp2_with fail
     go_meet
     case rel=>exact⟨by rw [unhide HV],below_regrown _ dq osq⟩
    ·have hgt:decide ((0:Int) < ((j+1:Nat):Int))=true:=decide_eq_true (by omega)
     have m3:=cell_grown' q1
     cases h1:NN fr
     case' false=>
      have cN:=unhide HNR fr false W1 (unhide HKI) h1
      have HV:=hide (show bb=true by rw [←unhide HBB];simp[h1])
      clear HBB
      refine wp_region_quiet_below (by kernel_rfl) (by kernel_rfl) ?_
      repeat (first|go_big_quiet_step ((first|(go_at_call 22;exact cN _ _)|(go_at_call 19;exact cS _ _)))|quiet_step ((first|(go_at_call 22;exact cN _ _)|(go_at_call 19;exact cS _ _))))
      refine wpQuiet_nil ?_
      intro _ hw'
      obtain⟨⟨dq,osq⟩,hw''⟩:=hw'
      subst hw''
      go_wp2_with fail
      go_meet
      case rel=>exact⟨by rw [unhide HV],below_regrown _ dq osq⟩
     have cN:=unhide HNR fr true W1 (unhide HKI) h1
     by_cases h2:y < fr
     case' neg=>
      have hy:decide (fr≤y)=true:=decide_eq_true (by omega)
      have HV:=hide (show bb=true by rw [←unhide HBB];simp[h2])
      clear HBB
      refine wp_region_quiet_below (by kernel_rfl) (by kernel_rfl) ?_
      repeat (first|go_big_quiet_step ((first|(go_at_call 22;exact cN _ _)|(go_at_call 19;exact cS _ _)))|quiet_step ((first|(go_at_call 22;exact cN _ _)|(go_at_call 19;exact cS _ _))))
      refine wpQuiet_nil ?_
      intro _ hw'
      obtain⟨⟨dq,osq⟩,hw''⟩:=hw'
      subst hw''
      go_wp2_with fail
      go_meet
      case rel=>exact⟨by rw [unhide HV],below_regrown _ dq osq⟩
     have hy:decide (fr≤y)=false:=decide_eq_false (by omega)
     cases h3:smB lo
     case' false=>
      have cS:=rSome lo false W1 h3
      have HV:=hide (show bb=true by rw [←unhide HBB];simp[h3])
      clear HBB
      refine wp_region_quiet_below (by kernel_rfl) (by kernel_rfl) ?_
      repeat (first|go_big_quiet_step ((first|(go_at_call 22;exact cN _ _)|(go_at_call 19;exact cS _ _)))|quiet_step ((first|(go_at_call 22;exact cN _ _)|(go_at_call 19;exact cS _ _))))
      refine wpQuiet_nil ?_
      intro _ hw'
      obtain⟨⟨dq,osq⟩,hw''⟩:=hw'
      subst hw''
      go_wp2_with fail
      go_meet
      case rel=>exact⟨by rw [unhide HV],below_regrown _ dq osq⟩
     have cS:=rSome lo true W1 h3
     by_cases h4:ids.length≤40
     case' neg=>
      have hq:decide ((40:Int) < ids.length)=true:=decide_eq_true (by omega)
      have HV:=hide (show bb=true by rw [←unhide HBB];simp[h4])
      clear HBB
      refine wp_region_quiet_below (by kernel_rfl) (by kernel_rfl) ?_
      repeat (first|go_big_quiet_step ((first|(go_at_call 22;exact cN _ _)|(go_at_call 19;exact cS _ _)))|quiet_step ((first|(go_at_call 22;exact cN _ _)|(go_at_call 19;exact cS _ _))))
      refine wpQuiet_nil ?_
      intro _ hw'
      obtain⟨⟨dq,osq⟩,hw''⟩:=hw'
      subst hw''
      go_wp2_with fail
      go_meet
      case rel=>exact⟨by rw [unhide HV],below_regrown _ dq osq⟩
     have hq:decide ((40:Int) < ids.length)=false:=decide_eq_false (by omega)
     have HV:=hide (show bb=false by rw [←unhide HBB];simp[h1,h3,h4,h2])
     clear HBB
     refine wp_region_quiet_below (by kernel_rfl) (by kernel_rfl) ?_
     repeat (first|go_big_quiet_step ((first|(go_at_call 22;exact cN _ _)|(go_at_call 19;exact cS _ _)))|quiet_step ((first|(go_at_call 22;exact cN _ _)|(go_at_call 19;exact cS _ _))))
     refine wpQuiet_nil ?_
     intro _ hw'
     obtain⟨⟨dq,osq⟩,hw''⟩:=hw'
     subst hw''
     go_wp2_with fail
     go_meet
     case rel=>exact⟨by rw [unhide HV],below_regrown _ dq osq⟩
   case rest=>
    obtain⟨rfl,hbx⟩:=hcut
    have HW2:=hide (obj_step (unhide HW1) hbx)
    have HBK2:=hide (obj_step (unhide HBK1) hbx)
    have HBL2:=hide ((unhide HBL1).trans (hbx.mono (unhide HBL1).size))
    have HI2:=hide (GR.At.below (unhide HI1) hbx)
    clear hbx d0 d1 d2 c0 c1 c2 c3 c4 c5 c6 c7 c8 k0 k1 k2 k3 k4 k5 k6 k7 k8 m0 m1 m2 HW1 HBK1 HBL1 HI1 HPK1 HKI
    cases hbv:bb
    case' true=>
     have HP:Hid (TT=false):=unhide HBAD (by
      rw [unhide HNX]
      have h:=unhide HBB
      rw [hbv] at h
      unfold snB
      dsimp only
      cases h1:NN fr<;>cases h2:pv<;>cases h3:smB lo<;>cases h4:decide (ids.length≤40)<;>simp_all)
     clear HBAD HNX HBB
     subst hbv
     go_wp2_with fail
     go_ret
     exact⟨ret_bool (unhide HP).symm,unhide HBL2⟩
    have HGD:Hid (chk PP RR (seen.take (k+1))=chk (idB lo) ltB ids):=by
     rw [unhide HNX]
     have h:=unhide HBB
     rw [hbv] at h
     unfold snB
     dsimp only
     cases h1:NN fr<;>cases h2:pv<;>cases h3:smB lo<;>cases h4:decide (ids.length≤40)<;>simp_all
    subst hbv
    clear HNX HBB
    obtain⟨d0,d1,d2⟩:=three (unhide HW2)
    have hidl:=unhide HIDS
    go_wp2_with fail
    go_loopw [6] (fun i wr2=>∃m:Nat,m≤ids.length∧i= .int .i64 m∧chk (idB lo) ltB (ids.take m)=true∧Below wc.heap.size wc wr2) (fun i _=>ids.length - (intOf i).toNat)
    case atStart=>exact⟨0,Nat.zero_le _,rfl,rfl,Below.refl _ _⟩
    case round=>
     obtain⟨m,hm,rfl,hall,hbx⟩:=hrel
     have HBX:=hide hbx
     have HALM:=hide hall
     have HW3:=hide (obj_step (unhide HW2) hbx)
     obtain⟨d0,d1,d2⟩:=three (unhide HW3)
     clear hall
     by_cases hlm:m < ids.length
     case' neg=>
      have hke:m=ids.length:=by omega
      subst hke
      have hnlt:decide ((ids.length:Int) < (ids.length:Int))=false:=by simp
      have HF:Hid (chk PP RR (seen.take (k+1))=true):=by
       have h:=unhide HALM
       rw [List.take_length] at h
       exact(unhide HGD).trans h
      have HB9:=hide (obj_step (unhide HBK2) hbx)
      have HL9:=hide ((unhide HBL2).trans (hbx.mono (unhide HBL2).size))
      clear hbx
      go_wp2_with fail
      go_roundw
      case rel=>exact⟨k+1,by omega,by go_num,unhide HF,unhide HB9,unhide HL9⟩
      case measure=>simp[intOf];omega
     have HBM:Hid (chk (idB lo) ltB (ids.take (m+1))=false→TT=false):=fun h=>unhide HBAD ((unhide HGD).trans (chk_bad _ _ _ _ h))
     have HL9:=hide ((unhide HBL2).trans (hbx.mono (unhide HBL2).size))
     have hI3:=GR.At.below (unhide HI2) hbx
     clear hbx
     cases m with
     |zero=>
      obtain⟨g2,off2,rfl,hg2,q0⟩:=IntsAt.one hI3 0 hlm
      rw [Nat.add_zero] at q0
      have hgt:decide ((0:Int) < ((0:Nat):Int))=false:=rfl
      have HNX:Hid (chk (idB lo) ltB (ids.take (0+1))=idB lo ids[0]):=chk_first (idB lo) ltB ids hlm
      clear hI3
      generalize ids[0]=x at *
      cases h1:decide (lo≤x∧x≤1000000000)
      case' false=>
       have HV:=hide (unhide HBM (by rw [unhide HNX];simp[idB,h1]))
       clear HNX HBM
       go_wp2_with fail
       refine wp_region_quiet_lit (by kernel_rfl) (by kernel_rfl) ?_
       repeat (first|go_big_quiet_step ((first|(go_at_call 21;exact qIn _ _ _ _ h1 _ _)))|quiet_step ((first|(go_at_call 21;exact qIn _ _ _ _ h1 _ _))))
       refine wpQuiet_nil ?_
       intro _ hw'
       obtain⟨nq,hw''⟩:=hw'
       subst hw''
       go_wp2_with fail
       go_ret
       exact⟨ret_bool (unhide HV).symm,(unhide HL9).trans ⟨rfl,rfl,rfl,Nat.le_refl _,fun _ _=>rfl⟩⟩
      have HV:=hide (show chk (idB lo) ltB (ids.take (0+1))=true by rw [unhide HNX];simp[idB,h1])
      clear HNX HBM
      go_wp2_with fail
      refine wp_region_quiet_lit (by kernel_rfl) (by kernel_rfl) ?_
      repeat (first|go_big_quiet_step ((first|(go_at_call 21;exact qIn _ _ _ _ h1 _ _)))|quiet_step ((first|(go_at_call 21;exact qIn _ _ _ _ h1 _ _))))
      refine wpQuiet_nil ?_
      intro _ hw'
      obtain⟨nq,hw''⟩:=hw'
      subst hw''
      go_wp2_with fail
      go_roundw
      case rel=>exact⟨0+1,by omega,by go_num,unhide HV,(unhide HBX).trans ⟨rfl,rfl,rfl,Nat.le_refl _,fun _ _=>rfl⟩⟩
      case measure=>simp[intOf];omega
     |succ j=>
      obtain⟨g2,off2,e1,hg2,q0⟩:=IntsAt.one hI3 (j+1) hlm
      obtain⟨g3,off3,e2,hg3,q1⟩:=IntsAt.one hI3 j (by omega)
      rw [e1] at e2
      injection e2 with e2
      injection e2 with e2 e3
      subst e2 e3 e1
      have hgt:decide ((0:Int) < ((j+1:Nat):Int))=true:=decide_eq_true (by omega)
      have HNX:Hid (chk (idB lo) ltB (ids.take (j+1+1))=(idB lo ids[j+1]&&ltB ids[j] ids[j+1])):=by
       have h:=chk_next (idB lo) ltB ids j hlm
       rw [unhide HALM] at h
       exact h
      clear hI3
      generalize ids[j]=y at *
      generalize ids[j+1]=x at *
      cases h1:decide (lo≤x∧x≤1000000000)
      case' false=>
       have HV:=hide (unhide HBM (by rw [unhide HNX];simp[idB,h1]))
       clear HNX HBM
       go_wp2_with fail
       refine wp_region_quiet_lit (by kernel_rfl) (by kernel_rfl) ?_
       repeat (first|go_big_quiet_step ((first|(go_at_call 21;exact qIn _ _ _ _ h1 _ _)))|quiet_step ((first|(go_at_call 21;exact qIn _ _ _ _ h1 _ _))))
       refine wpQuiet_nil ?_
       intro _ hw'
       obtain⟨nq,hw''⟩:=hw'
       subst hw''
       go_wp2_with fail
       go_ret
       exact⟨ret_bool (unhide HV).symm,(unhide HL9).trans ⟨rfl,rfl,rfl,Nat.le_refl _,fun _ _=>rfl⟩⟩
      by_cases h2:y < x
      case' neg=>
       have hy:decide (x≤y)=true:=decide_eq_true (by omega)
       have HV:=hide (unhide HBM (by rw [unhide HNX];simp[ltB,h2]))
       clear HNX HBM
       go_wp2_with fail
       refine wp_region_quiet_lit (by kernel_rfl) (by kernel_rfl) ?_
       repeat (first|go_big_quiet_step ((first|(go_at_call 21;exact qIn _ _ _ _ h1 _ _)))|quiet_step ((first|(go_at_call 21;exact qIn _ _ _ _ h1 _ _))))
       refine wpQuiet_nil ?_
       intro _ hw'
       obtain⟨nq,hw''⟩:=hw'
       subst hw''
       go_wp2_with fail
       go_ret
       exact⟨ret_bool (unhide HV).symm,(unhide HL9).trans ⟨rfl,rfl,rfl,Nat.le_refl _,fun _ _=>rfl⟩⟩
      have hy:decide (x≤y)=false:=decide_eq_false (by omega)
      have HV:=hide (show chk (idB lo) ltB (ids.take (j+1+1))=true by rw [unhide HNX];simp[idB,h1,ltB,h2])
      clear HNX HBM
      go_wp2_with fail
      refine wp_region_quiet_lit (by kernel_rfl) (by kernel_rfl) ?_
      repeat (first|go_big_quiet_step ((first|(go_at_call 21;exact qIn _ _ _ _ h1 _ _)))|quiet_step ((first|(go_at_call 21;exact qIn _ _ _ _ h1 _ _))))
      refine wpQuiet_nil ?_
      intro _ hw'
      obtain⟨nq,hw''⟩:=hw'
      subst hw''
      go_wp2_with fail
      go_roundw
      case rel=>exact⟨j+1+1,by omega,by go_num,unhide HV,(unhide HBX).trans ⟨rfl,rfl,rfl,Nat.le_refl _,fun _ _=>rfl⟩⟩
      case measure=>simp[intOf];omega
theorem infoSeen:(Tryz.prog.info? 71).map (fun i=>(i.zero,i.size,i.bytes))=some (some (.agg #[.int .i64 0,.int .i64 0,.slice none 0 0]),3,40):=by kernel_rfl
theorem blk_setO {w:World} {c:Nat} {cs:Array Value} {t:TypeId} (h:w.heap[c]?=some (.cells cs t (0,0))) (i:Nat) (v:Value):(w.setCell ⟨c,i,none⟩ v).heap[c]?=some (.cells (cs.setIfInBounds i v) t (0,0)):=by
 unfold World.setCell
 simp only[Array.getElem?_modify]
 rw [if_pos trivial,h]
 rfl
theorem oth_set {w:World} {g g' i:Nat} {v:Value} {o:Option Obj} (h:w.heap[g']?=o) (hne:g'≠g):(w.setCell ⟨g,i,none⟩ v).heap[g']?=o:=by rw [Below.heap_setCell _ _ _ _ hne,h]
theorem allocs3 (w:World) (a b c:Obj):(((w.alloc a).alloc b).alloc c).heap[w.heap.size]?=some a∧(((w.alloc a).alloc b).alloc c).heap[w.heap.size+1]?=some b∧(((w.alloc a).alloc b).alloc c).heap[w.heap.size+1+1]?=some c∧Below w.heap.size w (((w.alloc a).alloc b).alloc c):=by
 have e1:(w.alloc a).heap.size=w.heap.size+1:=by simp
 have e2:((w.alloc a).alloc b).heap.size=w.heap.size+1+1:=by simp
 have h1:=heap_alloc_new w a
 have h2:=heap_alloc_new (w.alloc a) b
 have h3:=heap_alloc_new ((w.alloc a).alloc b) c
 rw [e1] at h2
 rw [e2] at h3
 refine⟨?_,?_,h3,((below_one w _).alloc (by simp) _).alloc (by simp;omega) _⟩
 ·rw [Below.heap_alloc _ _ _ (by rw [e2];omega),Below.heap_alloc _ _ _ (by rw [e1];omega)]
  exact h1
 ·rw [Below.heap_alloc _ _ _ (by rw [e2];omega)]
  exact h2
theorem bodyPost_atN {P:Program} {fn:Func} {Q:Ending→World→Prop} {x:Exit} {act:Act} {W:World} (h:∀W',W'=W→bodyPost P fn Q x act W'):bodyPost P fn Q x act W:=h W rfl
abbrev r3Blk (w:World) (g:Nat) (T:List R3):Prop:=GR.Blk encR3 71 w g T
theorem r3Blk.three {w:World} {g:Nat} {l:List R3} (h:r3Blk w g l) (i:Nat) (hi:i < l.length):w.cell? ⟨g,i*3,none⟩=some (.int .i64 l[i].f)∧w.cell? ⟨g,i*3+1,none⟩=some (.int .i64 l[i].l)∧w.cell? ⟨g,i*3+2,none⟩=some l[i].v:=
 ⟨by simpa using GR.Blk.cell h encR3_length i hi 0 (by omega),by simpa using GR.Blk.cell h encR3_length i hi 1 (by omega),by simpa using GR.Blk.cell h encR3_length i hi 2 (by omega)⟩
end Go.Proofs.YtdlokncalhopoaaGreat
