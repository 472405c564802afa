/- Parts. -/
import Derived.Test.YtdlokncalhopoaaGreatPy3
import Derived.Deep.QuietTactic
import Derived.BigQuiet
namespace Go.Proofs.YtdlokncalhopoaaGreat
set_option maxHeartbeats 4000000
set_option maxRecDepth 100000
open Go.RowKit
open Mth
theorem qNode (x:Int) (b:Bool) (hb:ndB x=b) (W:World) (n:Nat):Calls Tryz.prog 40 #[.int .i64 x] (W.drewN n) fun e w''=>e= .returned (.bool b)∧∃m,w''=W.drewN m:=
 (l04Node x b _ hb).mono fun _ _ ⟨he,hw⟩=>⟨he,n,hw.symm⟩
theorem Mth.place_head {n:Nd} (h:(ndB n.id&&decide (-1≤n.par∧n.par≤29)&&decide (n.par≠n.id)&&decide (n.kids.length≤30))=false):placeB n=false:=by
 unfold placeB
 rw [h]
 rfl
theorem Mth.place_tail {n:Nd} (h1:ndB n.id=true) (h2: -1≤n.par∧n.par≤29) (h3:n.par≠n.id) (h4:n.kids.length≤30):placeB n=chk (kidB n.id n.par) ltB n.kids:=by
 unfold placeB
 rw [h1,decide_eq_true h2,decide_eq_true h3,decide_eq_true h4]
 rfl
theorem specPlace (n:Nd) (A:Ads) (w:World) (hl:n.kids.length≤1048600) (ha:IntsAt w A.k n.kids):
 Calls Tryz.prog 16 #[ndv n A] w fun e w'=>e= .returned (.bool (placeB n))∧Below w.heap.size w w':=by
 have HA:=hide ha
 have HD:=hide (@place_head n)
 have HTL:=hide (@place_tail n)
 have HCB:=hide (fun k h=>chk_bad (kidB n.id n.par) ltB n.kids k h)
 have HCF:=hide (chk_first (kidB n.id n.par) ltB n.kids)
 have HCN:=hide (chk_next (kidB n.id n.par) ltB n.kids)
 clear ha
 obtain⟨id,par,kids,next,pu,out,seen,old,reqs⟩:=n
 obtain⟨ak,ap,ao,as',ar,ck,cp,co,cs,cr⟩:=A
 dsimp only at hl HA HD HTL HCB HCF HCN ⊢
 cases h1:ndB id
 case' false=>
  have HP:=hide (unhide HD (by rw [h1];rfl))
  clear HD HTL HCB HCF HCN
  go_enter Tryz.func16,Tryz.ntmps16
  go_wp2_with (first|(go_at_call 40;refine(l04Node _ false _ h1).mono ?_;rintro e w1 ⟨rfl,rfl⟩))
  go_ret
  exact⟨ret_bool (unhide HP).symm,below_one w _⟩
 cases h2:decide (-1≤par∧par≤29)
 case' false=>
  have HP:=hide (unhide HD (by rw [h2];simp))
  clear HD HTL HCB HCF HCN
  go_enter Tryz.func16,Tryz.ntmps16
  go_wp2_with (first|(go_at_call 40;refine(l04Node _ true _ h1).mono ?_;rintro e w1 ⟨rfl,rfl⟩)|(go_at_call 21;refine(l01InR _ _ _ false _ h2).mono ?_;rintro e w1 ⟨rfl,rfl⟩))
  go_ret
  exact⟨ret_bool (unhide HP).symm,below_one w _⟩
 by_cases h3:par=id
 case' pos=>
  have hb3:(par == id)=true:=by simp[h3]
  have HP:=hide (unhide HD (by simp[h3]))
  clear h3 HD HTL HCB HCF HCN
  go_enter Tryz.func16,Tryz.ntmps16
  go_wp2_with (first|(go_at_call 40;refine(l04Node _ true _ h1).mono ?_;rintro e w1 ⟨rfl,rfl⟩)|(go_at_call 21;refine(l01InR _ _ _ true _ h2).mono ?_;rintro e w1 ⟨rfl,rfl⟩))
  go_ret
  exact⟨ret_bool (unhide HP).symm,below_one w _⟩
 have hb3:(par == id)=false:=by simp[h3]
 by_cases h4:kids.length≤30
 case' neg=>
  have hb4:decide ((30:Int) < kids.length)=true:=decide_eq_true (by omega)
  have HP:=hide (unhide HD (by simp[h4]))
  clear HD HTL HCB HCF HCN
  go_enter Tryz.func16,Tryz.ntmps16
  go_wp2_with (first|(go_at_call 40;refine(l04Node _ true _ h1).mono ?_;rintro e w1 ⟨rfl,rfl⟩)|(go_at_call 21;refine(l01InR _ _ _ true _ h2).mono ?_;rintro e w1 ⟨rfl,rfl⟩))
  go_ret
  exact⟨ret_bool (unhide HP).symm,below_one w _⟩
 have hb4:decide ((30:Int) < kids.length)=false:=decide_eq_false (by omega)
 have HOK:=hide (unhide HTL h1 (of_decide_eq_true h2) h3 h4)
 clear HD HTL
 go_enter Tryz.func16,Tryz.ntmps16
 go_wp2_with (first|(go_at_call 40;refine(l04Node _ true _ h1).mono ?_;rintro e w1 ⟨rfl,rfl⟩)|(go_at_call 21;refine(l01InR _ _ _ true _ h2).mono ?_;rintro e w1 ⟨rfl,rfl⟩))
 go_loopw [3] (fun i wr=>∃k:Nat,k≤kids.length∧i= .int .i64 k∧chk (kidB id par) ltB (kids.take k)=true∧wr.heap[w.heap.size]?=some (.cells (ndc ⟨id,par,kids,next,pu,out,seen,old,reqs⟩ ⟨ak,ap,ao,as',ar,ck,cp,co,cs,cr⟩) 30 (0,0))∧Below w.heap.size w wr) (fun i _=>kids.length - (intOf i).toNat)
 case atStart=>exact⟨0,Nat.zero_le _,rfl,rfl,heap_alloc_new w _,below_one w _⟩
 case round=>
  obtain⟨k,hk,rfl,hall,hblk,hbel⟩:=hrel
  have HALL:=hide hall
  have HBL:=hide hbel
  have HBK:=hide hblk
  obtain⟨c0,c1,c2,_⟩:=nine hblk
  clear hall hbel hblk
  by_cases hlt:k < kids.length
  case' neg=>
   have hke:k=kids.length:=by omega
   subst hke
   have hnlt:decide ((kids.length:Int) < (kids.length:Int))=false:=by simp
   have HF:Hid (placeB ⟨id,par,kids,next,pu,out,seen,old,reqs⟩=true):=by
    have h:=unhide HALL
    rw [List.take_length] at h
    exact(unhide HOK).trans h
   go_wp2_with fail
   go_ret
   exact⟨ret_bool (unhide HF).symm,unhide HBL⟩
  have HBAD:Hid (chk (kidB id par) ltB (kids.take (k+1))=false→placeB ⟨id,par,kids,next,pu,out,seen,old,reqs⟩=false):=fun h=>(unhide HOK).trans (unhide HCB _ h)
  cases k with
  |zero=>
   obtain⟨g,off,rfl,hgw,q0⟩:=IntsAt.one (GR.At.below (unhide HA) (unhide HBL)) 0 hlt
   rw [Nat.add_zero] at q0
   have hgt:decide ((0:Int) < ((0:Nat):Int))=false:=rfl
   have HNX:Hid (chk (kidB id par) ltB (kids.take 1)=kidB id par kids[0]):=unhide HCF hlt
   clear HCF HCN HCB
   generalize kids[0]=x at *
   cases hx1:ndB x
   case' false=>
    have HP:=hide (unhide HBAD (by rw [unhide HNX];simp[kidB,hx1]))
    clear HBAD HNX
    go_wp2_with fail
    refine wp_region_quiet_lit (by kernel_rfl) (by kernel_rfl) ?_
    repeat (first|go_big_quiet_step ((first|(go_at_call 40;exact qNode _ _ hx1 _ _)))|quiet_step ((first|(go_at_call 40;exact qNode _ _ hx1 _ _))))
    refine wpQuiet_nil ?_
    intro _ hw'
    obtain⟨nq,hw''⟩:=hw'
    subst hw''
    go_wp2_with fail
    go_ret
    exact⟨ret_bool (unhide HP).symm,(unhide HBL).trans ⟨rfl,rfl,rfl,Nat.le_refl _,fun _ _=>rfl⟩⟩
   by_cases hx2:x=id
   case' pos=>
    have hy2:(x == id)=true:=by simp[hx2]
    have HP:=hide (unhide HBAD (by rw [unhide HNX];simp[kidB,hx2]))
    clear HBAD HNX hx2
    go_wp2_with fail
    refine wp_region_quiet_lit (by kernel_rfl) (by kernel_rfl) ?_
    repeat (first|go_big_quiet_step ((first|(go_at_call 40;exact qNode _ _ hx1 _ _)))|quiet_step ((first|(go_at_call 40;exact qNode _ _ hx1 _ _))))
    refine wpQuiet_nil ?_
    intro _ hw'
    obtain⟨nq,hw''⟩:=hw'
    subst hw''
    go_wp2_with fail
    go_ret
    exact⟨ret_bool (unhide HP).symm,(unhide HBL).trans ⟨rfl,rfl,rfl,Nat.le_refl _,fun _ _=>rfl⟩⟩
   have hy2:(x == id)=false:=by simp[hx2]
   by_cases hx3:x=par
   case' pos=>
    have hy3:(x == par)=true:=by simp[hx3]
    have HP:=hide (unhide HBAD (by rw [unhide HNX];simp[kidB,hx3]))
    clear HBAD HNX hx3
    go_wp2_with fail
    refine wp_region_quiet_lit (by kernel_rfl) (by kernel_rfl) ?_
    repeat (first|go_big_quiet_step ((first|(go_at_call 40;exact qNode _ _ hx1 _ _)))|quiet_step ((first|(go_at_call 40;exact qNode _ _ hx1 _ _))))
    refine wpQuiet_nil ?_
    intro _ hw'
    obtain⟨nq,hw''⟩:=hw'
    subst hw''
    go_wp2_with fail
    go_ret
    exact⟨ret_bool (unhide HP).symm,(unhide HBL).trans ⟨rfl,rfl,rfl,Nat.le_refl _,fun _ _=>rfl⟩⟩
   have hy3:(x == par)=false:=by simp[hx3]
   have HG:=hide (show chk (kidB id par) ltB (kids.take (0+1))=true by rw [unhide HNX];simp[kidB,hx1,hx2,hx3])
   clear HBAD HNX
   go_wp2_with fail
   refine wp_region_quiet_lit (by kernel_rfl) (by kernel_rfl) ?_
   repeat (first|go_big_quiet_step ((first|(go_at_call 40;exact qNode _ _ hx1 _ _)))|quiet_step ((first|(go_at_call 40;exact qNode _ _ hx1 _ _))))
   refine wpQuiet_nil ?_
   intro _ hw'
   obtain⟨nq,hw''⟩:=hw'
   subst hw''
   go_wp2_with fail
   go_roundw
   case rel=>exact⟨0+1,by omega,by go_num,unhide HG,unhide HBK,(unhide HBL).trans ⟨rfl,rfl,rfl,Nat.le_refl _,fun _ _=>rfl⟩⟩
   case measure=>simp[intOf];omega
  |succ j=>
   obtain⟨g,off,e1,hgw,q0⟩:=IntsAt.one (GR.At.below (unhide HA) (unhide HBL)) (j+1) hlt
   obtain⟨g',off',e2,hgw',q1⟩:=IntsAt.one (GR.At.below (unhide HA) (unhide HBL)) j (by omega)
   rw [e1] at e2
   injection e2 with e2
   injection e2 with e2 e3
   subst e2 e3 e1
   have hgt:decide ((0:Int) < ((j+1:Nat):Int))=true:=decide_eq_true (by omega)
   have HNX:Hid (chk (kidB id par) ltB (kids.take (j+1+1))=(kidB id par kids[j+1]&&ltB kids[j] kids[j+1])):=by
    have h:=unhide HCN j hlt
    rw [unhide HALL] at h
    exact h
   clear HCF HCN HCB
   generalize kids[j]=y at *
   generalize kids[j+1]=x at *
   cases hx1:ndB x
   case' false=>
    have HP:=hide (unhide HBAD (by rw [unhide HNX];simp[kidB,hx1]))
    clear HBAD HNX
    go_wp2_with fail
    refine wp_region_quiet_lit (by kernel_rfl) (by kernel_rfl) ?_
    repeat (first|go_big_quiet_step ((first|(go_at_call 40;exact qNode _ _ hx1 _ _)))|quiet_step ((first|(go_at_call 40;exact qNode _ _ hx1 _ _))))
    refine wpQuiet_nil ?_
    intro _ hw'
    obtain⟨nq,hw''⟩:=hw'
    subst hw''
    go_wp2_with fail
    go_ret
    exact⟨ret_bool (unhide HP).symm,(unhide HBL).trans ⟨rfl,rfl,rfl,Nat.le_refl _,fun _ _=>rfl⟩⟩
   by_cases hx2:x=id
   case' pos=>
    have hy2:(x == id)=true:=by simp[hx2]
    have HP:=hide (unhide HBAD (by rw [unhide HNX];simp[kidB,hx2]))
    clear HBAD HNX hx2
    go_wp2_with fail
    refine wp_region_quiet_lit (by kernel_rfl) (by kernel_rfl) ?_
    repeat (first|go_big_quiet_step ((first|(go_at_call 40;exact qNode _ _ hx1 _ _)))|quiet_step ((first|(go_at_call 40;exact qNode _ _ hx1 _ _))))
    refine wpQuiet_nil ?_
    intro _ hw'
    obtain⟨nq,hw''⟩:=hw'
    subst hw''
    go_wp2_with fail
    go_ret
    exact⟨ret_bool (unhide HP).symm,(unhide HBL).trans ⟨rfl,rfl,rfl,Nat.le_refl _,fun _ _=>rfl⟩⟩
   have hy2:(x == id)=false:=by simp[hx2]
   by_cases hx3:x=par
   case' pos=>
    have hy3:(x == par)=true:=by simp[hx3]
    have HP:=hide (unhide HBAD (by rw [unhide HNX];simp[kidB,hx3]))
    clear HBAD HNX hx3
    go_wp2_with fail
    refine wp_region_quiet_lit (by kernel_rfl) (by kernel_rfl) ?_
    repeat (first|go_big_quiet_step ((first|(go_at_call 40;exact qNode _ _ hx1 _ _)))|quiet_step ((first|(go_at_call 40;exact qNode _ _ hx1 _ _))))
    refine wpQuiet_nil ?_
    intro _ hw'
    obtain⟨nq,hw''⟩:=hw'
    subst hw''
    go_wp2_with fail
    go_ret
    exact⟨ret_bool (unhide HP).symm,(unhide HBL).trans ⟨rfl,rfl,rfl,Nat.le_refl _,fun _ _=>rfl⟩⟩
   have hy3:(x == par)=false:=by simp[hx3]
   by_cases hx4:y < x
   case' neg=>
    have hy4:decide (x≤y)=true:=decide_eq_true (by omega)
    have HP:=hide (unhide HBAD (by rw [unhide HNX];simp[kidB,ltB,hx4]))
    clear HBAD HNX
    go_wp2_with fail
    refine wp_region_quiet_lit (by kernel_rfl) (by kernel_rfl) ?_
    repeat (first|go_big_quiet_step ((first|(go_at_call 40;exact qNode _ _ hx1 _ _)))|quiet_step ((first|(go_at_call 40;exact qNode _ _ hx1 _ _))))
    refine wpQuiet_nil ?_
    intro _ hw'
    obtain⟨nq,hw''⟩:=hw'
    subst hw''
    go_wp2_with fail
    go_ret
    exact⟨ret_bool (unhide HP).symm,(unhide HBL).trans ⟨rfl,rfl,rfl,Nat.le_refl _,fun _ _=>rfl⟩⟩
   have hy4:decide (x≤y)=false:=decide_eq_false (by omega)
   have HG:=hide (show chk (kidB id par) ltB (kids.take (j+1+1))=true by rw [unhide HNX];simp[kidB,hx1,hx2,hx3,ltB,hx4])
   clear HBAD HNX
   go_wp2_with fail
   refine wp_region_quiet_lit (by kernel_rfl) (by kernel_rfl) ?_
   repeat (first|go_big_quiet_step ((first|(go_at_call 40;exact qNode _ _ hx1 _ _)))|quiet_step ((first|(go_at_call 40;exact qNode _ _ hx1 _ _))))
   refine wpQuiet_nil ?_
   intro _ hw'
   obtain⟨nq,hw''⟩:=hw'
   subst hw''
   go_wp2_with fail
   go_roundw
   case rel=>exact⟨j+1+1,by omega,by go_num,unhide HG,unhide HBK,(unhide HBL).trans ⟨rfl,rfl,rfl,Nat.le_refl _,fun _ _=>rfl⟩⟩
   case measure=>simp[intOf];omega
end Go.Proofs.YtdlokncalhopoaaGreat
