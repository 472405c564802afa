/-
  Parts of proofs that stand more than once, each said once.
-/
import Derived.Test.YtppmcficiphgdaaGreatDoorQaZ2
namespace Go.Proofs.YtppmcficiphgdaaGreatDoor
set_option maxRecDepth 100000
variable{P:Prop}
theorem Sa227.Ka58(h:P:=by
 rcases Mth.byte_cases s[k] with h|h
 ·have HK:=hide (Mth.keyByte_yes _ h);rcases h with⟨h1,h2⟩|⟨h1,h2⟩
  all_goals
   go_wp2_with (first|(go_at_call 181;first|(refine(small_yes _ _ ?_ ?_).mono ?_;omega;omega;rintro e w' ⟨rfl,rfl⟩)|(refine(small_no _ _ ?_).mono ?_;omega;rintro e w' ⟨rfl,rfl⟩))|(go_at_call 182;first|(refine(digit_yes _ _ ?_ ?_).mono ?_;omega;omega;rintro e w' ⟨rfl,rfl⟩)|(refine(digit_no _ _ ?_).mono ?_;omega;rintro e w' ⟨rfl,rfl⟩)))
   go_round
   case rel=>exact⟨k+1,by omega,by go_num,by rw [unhide HS,unhide HA,unhide HK];rfl⟩
   case measure=>simp[intOf];omega
 ·have HK:=hide (Mth.keyByte_no _ h);have HF:Hid (Mth.keyOk s.data.toList=false):=Mth.keyOk_bad _ (k+1) (by rw [unhide HS,unhide HA,unhide HK];rfl);rcases h with h1|⟨h1,h2⟩|h1
  all_goals
   go_wp2_with (first|(go_at_call 181;first|(refine(small_yes _ _ ?_ ?_).mono ?_;omega;omega;rintro e w' ⟨rfl,rfl⟩)|(refine(small_no _ _ ?_).mono ?_;omega;rintro e w' ⟨rfl,rfl⟩))|(go_at_call 182;first|(refine(digit_yes _ _ ?_ ?_).mono ?_;omega;omega;rintro e w' ⟨rfl,rfl⟩)|(refine(digit_no _ _ ?_).mono ?_;omega;rintro e w' ⟨rfl,rfl⟩)))
   go_ret
   exact⟨ret_bool HF.symm,rfl⟩):P:=h
theorem Ya59(h:P:=by
 open Sa338 in exact Ya101):P:=h
theorem Sa228.Ka59(h:P:=by
 cases h1:PL
 case' false=>
  have HP:=hide (show TT=false by rw [unhide HD];simp[h1])
  clear h1 HD
  go_wp2_with fail
  go_ret
  exact⟨ret_bool HP.symm,HL1⟩
 go_wp2_with fail;refine(HPU _ HL1).mono ?_;rintro e w2 ⟨rfl,hb1⟩;open Sa243 in exact Ya63):P:=h
theorem Sa229.Ka59(h:P:=by
 go_wp2_with fail;refine(HPP _ _ HL1 (by omega)).mono ?_;rintro e w2 ⟨rfl,hb1⟩;open Sa242 in exact Ya63):P:=h
theorem Sa230.Ka59(h:P:=by
 rcases hcase with rfl|⟨p0,p1,p2,p3⟩
 case' inl=>
  go_wp2_with fail
  go_ret
  exact⟨-1,rfl,HL1,.inl rfl⟩
 have K1:=hide (And.intro p2 p3);have q3:decide (z1 < 0)=false:=decide_eq_false (by omega);clear p2 p3;go_wp2_with fail;refine(HO _ _ HL1 (by omega) (by omega)).mono ?_;rintro e w2 ⟨z2,rfl,hb1,hcase⟩;open Sa241 in exact Ya63):P:=h
theorem Ya60(h:P:=by
 obtain⟨k,hk,rfl,hall,hblk,hbel⟩:=hrel;have HALL:=hide hall;have HBL:=hide hbel;have HBK:=hide hblk;exact Ka60):P:=h
theorem Sa231.Ka60(h:P:=by
 clear c0 c1 c2 c3 c4 c5 c6 c7 c8;obtain⟨c0,c1,c2,c3,c4,c5,c6,c7,c8⟩:=nine hblk;clear hall hbel hblk;by_cases hlt:k < reqs.length
 case' neg=>
  have hke:k=reqs.length:=by omega
  subst hke
  have hnlt2:decide ((reqs.length:Int) < (reqs.length:Int))=false:=by simp
  have HF:Hid (TT=true):=by
   have h:=unhide HALL;rw [List.take_length] at h;exact HOF.trans h
  go_wp2_with fail
  go_ret
  exact⟨ret_bool HF.symm,HBL⟩
 have HBAD:Hid (chk RQ RR (reqs.take (k+1))=false→TT=false):=fun h=>HOF.trans (HDB _ h)
 obtain⟨g,off,e0,hgw,q0,q1,q2,q3⟩:=ReqAt.four (HA.below HBL).r k hlt;(try dsimp only at e0 q0 q1 q2 q3)
 have hks:=HZ.rk _ (List.getElem_mem hlt);(try dsimp only at hks)
 have HPV:Hid (∃pv:Bool,chk RQ RR (reqs.take (k+1))=(RQ reqs[k]&&pv)∧((k=0∧pv=true)∨∃(j:Nat) (y:Int),k=j+1∧pv=decide (y < (reqs[k]).no)∧wr.cell? ⟨g,off+j*4,none⟩=some (.int .i64 y))):=by
  cases k with
  |zero=>
   refine⟨true,?_,.inl ⟨rfl,rfl⟩⟩
   rw [Bool.and_true]
   exact HDF hlt
  |succ j=>
   obtain⟨g',off',e2,_,p0,_⟩:=ReqAt.four (HA.below HBL).r j (show j < reqs.length by omega)
   (try dsimp only at e2 p0)
   rw [e0] at e2
   injection e2 with e2
   injection e2 with e2 e3
   subst e2 e3
   refine⟨_,?_,.inr ⟨j,_,rfl,rfl,p0⟩⟩
   have h:=unhide HDN j hlt
   rw [unhide HALL] at h
   exact h
 subst e0;have HOK:=hide (HRQ reqs[k]);generalize reqs[k]=sk at *;generalize RQ sk=OB at *;obtain⟨si,sx,sn,st⟩:=sk;dsimp only at q0 q1 q2 q3 hks HPV HOK;obtain⟨pv,hpv,hpk⟩:=unhide HPV;have HNX:=hide hpv;have HPK:=hide hpk;obtain⟨bb,hbb⟩:∃bb,(!(decide (old+1≤si∧si≤1000000000)&&keyOk sx.data.toList&&smB sn&&decide (0≤st∧st≤2)&&pv))=bb:=⟨_,rfl⟩;have HBB:=hide hbb;clear hpv hpk HPV hbb HDF HDN HDB;go_upto_region 13 with fail;refine wp_at (fun W1 hW1=>?_);have HW1:Hid (W1.heap[wr.heap.size]?=some (.cells #[.int .i64 si,.string sx,.int .i64 sn,.int .i64 st] 49 (0,0))):=by rw [hW1];exact heap_alloc_new _ _
 open Sa63 in exact Ya15):P:=h
theorem Sa232.Ka60(h:P:=by
 obtain⟨c0,c1,c2,c3,c4,c5,c6,_⟩:=nine hblk;clear hall hbel hblk;by_cases hlt:k < seen.length
 case' neg=>
  have hke:k=seen.length:=by omega
  subst hke
  have hnlt:decide ((seen.length:Int) < (seen.length:Int))=false:=by simp
  have HF:Hid (TT=true):=by
   exact Za29
  go_wp2_with fail
  go_ret
  exact⟨ret_bool HF.symm,HBL⟩
 have HBAD:Hid (chk PP RR (seen.take (k+1))=false→TT=false):=fun h=>HOK.trans (HCB _ h)
 obtain⟨g,off,b,c,e0,hgw,q0,q1,q2,hI⟩:=SeenAt.below HS HBL k hlt;have hids:(seen[k]).ids.length≤1048600:=unhide HL3 _ (List.getElem_mem hlt);have HI:=hide hI;have HIDS:=hide hids;clear hI hids
 have HPV:Hid (∃pv:Bool,chk PP RR (seen.take (k+1))=((NN (seen[k]).f&&snB seen[k])&&pv)∧((k=0∧pv=true)∨∃(j:Nat) (y:Int),k=j+1∧pv=decide (y < (seen[k]).f)∧wr.cell? ⟨g,off+j*3,none⟩=some (.int .i64 y))):=by
  cases k with
  |zero=>
   refine⟨true,?_,.inl ⟨rfl,rfl⟩⟩
   have h:=unhide HCF hlt
   rw [Bool.and_true]
   exact h
  |succ j=>
   obtain⟨g',off',_,_,e2,_,p0,_⟩:=SeenAt.below HS HBL j (by omega)
   rw [e0] at e2
   injection e2 with e2
   injection e2 with e2 e3
   subst e2 e3
   refine⟨_,?_,.inr ⟨j,_,rfl,rfl,p0⟩⟩
   have h:=unhide HCN j hlt
   rw [unhide HALL] at h
   exact h
 subst e0;generalize hsk:seen[k]=sk at *;clear hsk;obtain⟨fr,lo,ids⟩:=sk;dsimp only at q0 q1 q2 HI HIDS HPV;obtain⟨pv,hpv,hpk⟩:=unhide HPV;have HNX:=hide hpv;have HPK:=hide hpk;obtain⟨bb,hbb⟩:∃bb,(!(NN fr&&pv&&smB lo&&decide (ids.length≤40)))=bb:=⟨_,rfl⟩;have HBB:=hide hbb;clear hpv hpk HPV hbb HCF HCN HCB;go_upto_region 10 with fail;open Sa287 in exact Ya78):P:=h
theorem Sa233.Ka60(h:P:=by
 obtain⟨c0,c1,c2,c3,c4,c5,c6,c7,c8⟩:=nine hblk;clear hall hbel hblk;by_cases hlt:k < out.length
 case' pos=>
  have HBAD:Hid (chk OT RO (out.take (k+1))=false→TT=false):=fun h=>by rw [unhide HTT,unhide HCB _ h];rfl
  obtain⟨g,off,e0,hgw,q0,q1,q2,q3⟩:=SentAt.four (HA.below HBL).o k hlt
  (try dsimp only at e0 q0 q1 q2 q3)
  have hks:=HZ.ok _ (List.getElem_mem hlt)
  (try dsimp only at hks)
  have HPV:Hid (∃pv:Bool,chk OT RO (out.take (k+1))=(OT out[k]&&pv)∧((k=0∧pv=true)∨∃(j:Nat) (y:Int),k=j+1∧pv=decide (y < (out[k]).i)∧wr.cell? ⟨g,off+j*4,none⟩=some (.int .i64 y))):=by
   cases k with
   |zero=>
    refine⟨true,?_,.inl ⟨rfl,rfl⟩⟩
    rw [Bool.and_true]
    exact HCF hlt
   |succ j=>
    obtain⟨g',off',e2,_,p0,_⟩:=SentAt.four (HA.below HBL).o j (show j < out.length by omega)
    (try dsimp only at e2 p0)
    rw [e0] at e2
    injection e2 with e2
    injection e2 with e2 e3
    subst e2 e3
    refine⟨_,?_,.inr ⟨j,_,rfl,rfl,p0⟩⟩
    have h:=unhide HCN j hlt
    rw [unhide HALL] at h
    exact h
  subst e0
  have HOK:=hide (HOT out[k])
  generalize out[k]=sk at *
  generalize OT sk=OB at *
  obtain⟨si,st,sx,sn⟩:=sk
  dsimp only at q0 q1 q2 q3 hks HPV HOK
  obtain⟨pv,hpv,hpk⟩:=unhide HPV
  have HNX:=hide hpv
  have HPK:=hide hpk
  obtain⟨bb,hbb⟩:∃bb,(!(decide (1≤si∧si≤next - 1)&&NN st&&keyOk sx.data.toList&&smB sn&&pv))=bb:=⟨_,rfl⟩
  have HBB:=hide hbb
  clear hpv hpk HPV hbb HCF HCN HCB
  go_upto_region 7 with fail
  refine wp_at (fun W1 hW1=>?_)
  have HW1:Hid (W1.heap[wr.heap.size]?=some (.cells #[.int .i64 si,.int .i64 st,.string sx,.int .i64 sn] 79 (0,0))):=by rw [hW1];exact heap_alloc_new _ _
  have hbw:Below wr.heap.size wr W1:=by rw [hW1];exact below_one wr _
  have HBK1:=hide (obj_step HBK hbw)
  have HBL1:=hide (HBL.trans (hbw.mono HBL.size))
  have hgw1:=hbw.size
  have HPK1:Hid ((k=0∧pv=true)∨∃(j:Nat) (y:Int),k=j+1∧pv=decide (y < si)∧W1.cell? ⟨g,off+j*4,none⟩=some (.int .i64 y)):=by
   exact Za74
  clear hW1 hbw q0 q1 q2 q3 c0 c1 c2 c3 c4 c5 c6 c7 c8 HPK HBK
  obtain⟨d0,d1,d2,d3⟩:=fourC HW1
  obtain⟨c0,c1,c2,c3,c4,c5,c6,c7,c8⟩:=nine HBK1
  have k0:=cell_grown' c0
  have k1:=cell_grown' c1
  have k2:=cell_grown' c2
  have k3:=cell_grown' c3
  have k4:=cell_grown' c4
  have k5:=cell_grown' c5
  have k6:=cell_grown' c6
  have k7:=cell_grown' c7
  have k8:=cell_grown' c8
  have m0:=cell_grown' d0
  have m1:=cell_grown' d1
  have m2:=cell_grown' d2
  have m3:=cell_grown' d3
  have en:IntKind.i64.wrap (next - 1)=next - 1:=IntWalk.i64_in _ ⟨by omega,by omega⟩
  go_cut [98] (fun r wx=>r= .bool bb∧Below W1.heap.size W1 wx)
  case first=>
   rcases HPK1 with⟨rfl,rfl⟩|⟨j,y,rfl,rfl,q1⟩
   ·have hgt:decide ((0:Int) < ((0:Nat):Int))=false:=rfl;open Sa20 in exact Ya4
   ·have hgt:decide ((0:Int) < ((j+1:Nat):Int))=true:=decide_eq_true (by omega);have m9:=cell_grown' q1;open Sa19 in exact Ya4
  case rest=>
   obtain⟨rfl,hbx⟩:=hcut;open Sa200 in exact Ya49
 open Sa196 in exact Ya48):P:=h
theorem Sa234.Ka60(h:P:=by
 obtain⟨c0,c1,c2,_⟩:=nine hblk;clear hall hbel hblk;by_cases hlt:k < kids.length
 case' neg=>
  have hke:k=kids.length:=by omega
  subst hke
  have hnlt:decide ((kids.length:Int) < (kids.length:Int))=false:=by simp
  have HF:Hid (placeB ⟨id,par,kids,next,pu,out,seen,old,reqs⟩=true):=by
   exact Za29
  go_wp2_with fail
  go_ret
  exact⟨ret_bool HF.symm,HBL⟩
 have HBAD:Hid (chk (kidB id par) ltB (kids.take (k+1))=false→placeB ⟨id,par,kids,next,pu,out,seen,old,reqs⟩=false):=fun h=>HOK.trans (HCB _ h)
 cases k with
 |zero=>
  obtain⟨g,off,rfl,hgw,q0⟩:=IntsAt.one (GR.At.below HA HBL) 0 hlt
  rw [Nat.add_zero] at q0
  have hgt:decide ((0:Int) < ((0:Nat):Int))=false:=rfl
  have HNX:Hid (chk (kidB id par) ltB (kids.take 1)=kidB id par kids[0]):=unhide HCF hlt
  clear HCF HCN HCB
  generalize kids[0]=x at *
  cases hx1:ndB x
  case' false=>
   have HP:=hide (HBAD (by rw [unhide HNX];simp[kidB,hx1]))
   clear HBAD HNX
   go_wp2_with fail
   refine wp_region_quiet_lit (by kernel_rfl) (by kernel_rfl) ?_
   repeat (first|go_big_quiet_step ((first|(go_at_call 123;exact qNode _ _ hx1 _ _)))|quiet_step ((first|(go_at_call 123;exact qNode _ _ hx1 _ _))))
   refine wpQuiet_nil ?_
   intro _ hw'
   obtain⟨nq,hw''⟩:=hw'
   subst hw''
   go_wp2_with fail
   go_ret
   exact⟨ret_bool HP.symm,HBL.trans ⟨rfl,rfl,rfl,Nat.le_refl _,fun _ _=>rfl⟩⟩
  by_cases hx2:x=id
  case' pos=>
   have hy2:(x == id)=true:=by simp[hx2]
   have HP:=hide (HBAD (by rw [unhide HNX];simp[kidB,hx2]))
   clear HBAD HNX hx2
   go_wp2_with fail
   refine wp_region_quiet_lit (by kernel_rfl) (by kernel_rfl) ?_
   repeat (first|go_big_quiet_step ((first|(go_at_call 123;exact qNode _ _ hx1 _ _)))|quiet_step ((first|(go_at_call 123;exact qNode _ _ hx1 _ _))))
   refine wpQuiet_nil ?_
   intro _ hw'
   obtain⟨nq,hw''⟩:=hw'
   subst hw''
   go_wp2_with fail
   go_ret
   exact⟨ret_bool HP.symm,HBL.trans ⟨rfl,rfl,rfl,Nat.le_refl _,fun _ _=>rfl⟩⟩
  have hy2:(x == id)=false:=by simp[hx2]
  by_cases hx3:x=par
  case' pos=>
   have hy3:(x == par)=true:=by simp[hx3]
   have HP:=hide (HBAD (by rw [unhide HNX];simp[kidB,hx3]))
   clear HBAD HNX hx3
   go_wp2_with fail
   refine wp_region_quiet_lit (by kernel_rfl) (by kernel_rfl) ?_
   repeat (first|go_big_quiet_step ((first|(go_at_call 123;exact qNode _ _ hx1 _ _)))|quiet_step ((first|(go_at_call 123;exact qNode _ _ hx1 _ _))))
   refine wpQuiet_nil ?_
   intro _ hw'
   obtain⟨nq,hw''⟩:=hw'
   subst hw''
   go_wp2_with fail
   go_ret
   exact⟨ret_bool HP.symm,HBL.trans ⟨rfl,rfl,rfl,Nat.le_refl _,fun _ _=>rfl⟩⟩
  have hy3:(x == par)=false:=by simp[hx3]
  have HG:=hide (show chk (kidB id par) ltB (kids.take (0+1))=true by rw [unhide HNX];simp[kidB,hx1,hx2,hx3])
  clear HBAD HNX
  go_wp2_with fail
  refine wp_region_quiet_lit (by kernel_rfl) (by kernel_rfl) ?_
  repeat (first|go_big_quiet_step ((first|(go_at_call 123;exact qNode _ _ hx1 _ _)))|quiet_step ((first|(go_at_call 123;exact qNode _ _ hx1 _ _))))
  refine wpQuiet_nil ?_
  intro _ hw'
  obtain⟨nq,hw''⟩:=hw'
  subst hw''
  go_wp2_with fail
  go_roundw
  case rel=>exact⟨0+1,by omega,by go_num,HG,HBK,HBL.trans ⟨rfl,rfl,rfl,Nat.le_refl _,fun _ _=>rfl⟩⟩
  case measure=>simp[intOf];omega
 |succ j=>
  obtain⟨g,off,e1,hgw,q0⟩:=IntsAt.one (GR.At.below HA HBL) (j+1) hlt
  obtain⟨g',off',e2,hgw',q1⟩:=IntsAt.one (GR.At.below HA HBL) j (by omega)
  rw [e1] at e2
  injection e2 with e2
  injection e2 with e2 e3
  subst e2 e3 e1
  have hgt:decide ((0:Int) < ((j+1:Nat):Int))=true:=decide_eq_true (by omega)
  have HNX:Hid (chk (kidB id par) ltB (kids.take (j+1+1))=(kidB id par kids[j+1]&&ltB kids[j] kids[j+1])):=by
   have h:=unhide HCN j hlt;rw [unhide HALL] at h;exact h
  clear HCF HCN HCB
  generalize kids[j]=y at *
  generalize kids[j+1]=x at *
  cases hx1:ndB x
  case' false=>
   have HP:=hide (HBAD (by rw [unhide HNX];simp[kidB,hx1]))
   clear HBAD HNX
   go_wp2_with fail
   refine wp_region_quiet_lit (by kernel_rfl) (by kernel_rfl) ?_
   repeat (first|go_big_quiet_step ((first|(go_at_call 123;exact qNode _ _ hx1 _ _)))|quiet_step ((first|(go_at_call 123;exact qNode _ _ hx1 _ _))))
   refine wpQuiet_nil ?_
   intro _ hw'
   obtain⟨nq,hw''⟩:=hw'
   subst hw''
   go_wp2_with fail
   go_ret
   exact⟨ret_bool HP.symm,HBL.trans ⟨rfl,rfl,rfl,Nat.le_refl _,fun _ _=>rfl⟩⟩
  by_cases hx2:x=id
  case' pos=>
   have hy2:(x == id)=true:=by simp[hx2]
   have HP:=hide (HBAD (by rw [unhide HNX];simp[kidB,hx2]))
   clear HBAD HNX hx2
   go_wp2_with fail
   refine wp_region_quiet_lit (by kernel_rfl) (by kernel_rfl) ?_
   repeat (first|go_big_quiet_step ((first|(go_at_call 123;exact qNode _ _ hx1 _ _)))|quiet_step ((first|(go_at_call 123;exact qNode _ _ hx1 _ _))))
   refine wpQuiet_nil ?_
   intro _ hw'
   obtain⟨nq,hw''⟩:=hw'
   subst hw''
   go_wp2_with fail
   go_ret
   exact⟨ret_bool HP.symm,HBL.trans ⟨rfl,rfl,rfl,Nat.le_refl _,fun _ _=>rfl⟩⟩
  have hy2:(x == id)=false:=by simp[hx2]
  by_cases hx3:x=par
  case' pos=>
   have hy3:(x == par)=true:=by simp[hx3]
   have HP:=hide (HBAD (by rw [unhide HNX];simp[kidB,hx3]))
   clear HBAD HNX hx3
   go_wp2_with fail
   refine wp_region_quiet_lit (by kernel_rfl) (by kernel_rfl) ?_
   repeat (first|go_big_quiet_step ((first|(go_at_call 123;exact qNode _ _ hx1 _ _)))|quiet_step ((first|(go_at_call 123;exact qNode _ _ hx1 _ _))))
   refine wpQuiet_nil ?_
   intro _ hw'
   obtain⟨nq,hw''⟩:=hw'
   subst hw''
   go_wp2_with fail
   go_ret
   exact⟨ret_bool HP.symm,HBL.trans ⟨rfl,rfl,rfl,Nat.le_refl _,fun _ _=>rfl⟩⟩
  have hy3:(x == par)=false:=by simp[hx3]
  by_cases hx4:y < x
  case' neg=>
   have hy4:decide (x≤y)=true:=decide_eq_true (by omega)
   have HP:=hide (HBAD (by rw [unhide HNX];simp[kidB,ltB,hx4]))
   clear HBAD HNX
   go_wp2_with fail
   refine wp_region_quiet_lit (by kernel_rfl) (by kernel_rfl) ?_
   repeat (first|go_big_quiet_step ((first|(go_at_call 123;exact qNode _ _ hx1 _ _)))|quiet_step ((first|(go_at_call 123;exact qNode _ _ hx1 _ _))))
   refine wpQuiet_nil ?_
   intro _ hw'
   obtain⟨nq,hw''⟩:=hw'
   subst hw''
   go_wp2_with fail
   go_ret
   exact⟨ret_bool HP.symm,HBL.trans ⟨rfl,rfl,rfl,Nat.le_refl _,fun _ _=>rfl⟩⟩
  have hy4:decide (x≤y)=false:=decide_eq_false (by omega)
  have HG:=hide (show chk (kidB id par) ltB (kids.take (j+1+1))=true by rw [unhide HNX];simp[kidB,hx1,hx2,hx3,ltB,hx4])
  clear HBAD HNX
  go_wp2_with fail
  refine wp_region_quiet_lit (by kernel_rfl) (by kernel_rfl) ?_
  repeat (first|go_big_quiet_step ((first|(go_at_call 123;exact qNode _ _ hx1 _ _)))|quiet_step ((first|(go_at_call 123;exact qNode _ _ hx1 _ _))))
  refine wpQuiet_nil ?_
  intro _ hw'
  obtain⟨nq,hw''⟩:=hw'
  subst hw''
  go_wp2_with fail
  go_roundw
  case rel=>exact⟨j+1+1,by omega,by go_num,HG,HBK,HBL.trans ⟨rfl,rfl,rfl,Nat.le_refl _,fun _ _=>rfl⟩⟩
  case measure=>simp[intOf];omega):P:=h
theorem Ya61(h:P:=by
 obtain⟨c0,c1,c2,c3,c4,c5,c6,c7,c8⟩:=nine HBK1;have k0:=cell_grown' c0;have k1:=cell_grown' c1;have k2:=cell_grown' c2;have k3:=cell_grown' c3;have k4:=cell_grown' c4;have k5:=cell_grown' c5;have k6:=cell_grown' c6;have k7:=cell_grown' c7;have k8:=cell_grown' c8;have m0:=cell_grown' d0;have m1:=cell_grown' d1;have m2:=cell_grown' d2;exact Ka61):P:=h
theorem Sa235.Ka61(h:P:=by
 have m3:=cell_grown' d3;have en:IntKind.i64.wrap (old+1)=old+1:=IntWalk.i64_in _ ⟨by omega,by omega⟩;go_cut [151] (fun r wx=>r= .bool bb∧Below W1.heap.size W1 wx)
 case first=>
  rcases HPK1 with⟨rfl,rfl⟩|⟨j,y,rfl,rfl,q1⟩
  ·have hgt:decide ((0:Int) < ((0:Nat):Int))=false:=rfl;open Sa18 in exact Ya3
  ·have hgt:decide ((0:Int) < ((j+1:Nat):Int))=true:=decide_eq_true (by omega);have m9:=cell_grown' q1;open Sa17 in exact Ya3
 case rest=>
  obtain⟨rfl,hbx⟩:=hcut;open Sa202 in exact Ya49):P:=h
theorem Sa236.Ka61(h:P:=by
 go_cut [64] (fun r wx=>r= .bool bb∧Below W1.heap.size W1 wx)
 case first=>
  rcases HPK1 with⟨rfl,rfl⟩|⟨j,y,rfl,rfl,q1⟩
  ·have hgt:decide ((0:Int) < ((0:Nat):Int))=false:=rfl;open Sa127 in exact Ya27
  ·have hgt:decide ((0:Int) < ((j+1:Nat):Int))=true:=decide_eq_true (by omega);have m3:=cell_grown' q1;open Sa126 in exact Ya27
 case rest=>
  obtain⟨rfl,hbx⟩:=hcut;have HW2:=hide (obj_step HW1 hbx);open Sa203 in exact Ya49):P:=h
theorem Ya62(h:P:=by
 refine wp_at (fun W hW=>?_);have HBW:Hid (Below w.heap.size w W):=by rw [hW];first|exact below_two w _ _|exact(below_two w _ _).drew
 exact Ka62):P:=h
theorem Sa237.Ka62(h:P:=by
 have hX:W.heap[w.heap.size+1]?=some (.cells #[.int .i64 5,.int .i64 0,.string ⟨#[]⟩,.int .i64 0,.int .i64 0,.int .i64 0,.int .i64 0,.int .i64 0,.int .i64 0,.string ⟨#[]⟩,.int .i64 0] 34 (0,0)):=by rw [hW];exact(allocsO w _ _).2
 have hY:W.heap[w.heap.size]?=some (.cells #[.int .i64 5,.int .i64 no,.string k,.int .i64 n,.int .i64 mK,.int .i64 mF,.int .i64 mT,.int .i64 mI,.int .i64 mL,.string mk,.int .i64 mN] 34 (0,0)):=by rw [hW];exact(allocsO w _ _).1
 open Sa222 in exact Ya56):P:=h
theorem Sa238.Ka62(h:P:=by
 have hX:W.heap[w.heap.size+1]?=some (.cells #[.int .i64 2,.int .i64 no,.string ⟨#[]⟩,.int .i64 0,.int .i64 0,.int .i64 0,.int .i64 0,.int .i64 0,.int .i64 0,.string ⟨#[]⟩,.int .i64 0] 34 (0,0)):=by rw [hW];exact(allocsO w _ _).2
 have hY:W.heap[w.heap.size]?=some (.cells #[.int .i64 2,.int .i64 no,.string k,.int .i64 n,.int .i64 mK,.int .i64 mF,.int .i64 mT,.int .i64 mI,.int .i64 mL,.string mk,.int .i64 mN] 34 (0,0)):=by rw [hW];exact(allocsO w _ _).1
 open Sa296 in exact Ya82):P:=h
theorem Sa239.Ka62(h:P:=by
 have hX:W.heap[w.heap.size+1]?=some (.cells #[.int .i64 1,.int .i64 no,.string k,.int .i64 n,.int .i64 0,.int .i64 0,.int .i64 0,.int .i64 0,.int .i64 0,.string ⟨#[]⟩,.int .i64 0] 34 (0,0)):=by rw [hW];exact(allocsO w _ _).2
 have hY:W.heap[w.heap.size]?=some (.cells #[.int .i64 1,.int .i64 no,.string k,.int .i64 n,.int .i64 mK,.int .i64 mF,.int .i64 mT,.int .i64 mI,.int .i64 mL,.string mk,.int .i64 mN] 34 (0,0)):=by rw [hW];exact(allocsO w _ _).1
 open Sa295 in exact Ya82):P:=h
theorem Sa240.Ka62(h:P:=by
 exact Ka10):P:=h
theorem Ya63(h:P:=by
 have HB2:=hide (obj_step HB1 hb1);have HL2:=hide (HL1.trans (hb1.mono HL1.size));clear hb1 c0 c1 c2 c3 c4 c5 c6 c7 c8;obtain⟨c0,c1,c2,c3,c4,c5,c6,c7,c8⟩:=nine HB2;exact Ka63):P:=h
theorem Sa241.Ka63(h:P:=by
 rcases hcase with rfl|⟨p0,p1,p2,p3⟩
 case' inl=>
  go_wp2_with fail
  go_ret
  exact⟨-1,rfl,HL2,.inl rfl⟩
 have K2:=hide (And.intro p2 p3);have q4:decide (z2 < 0)=false:=decide_eq_false (by omega);clear p2 p3;go_wp2_with fail;refine(HS _ _ HL2 (by omega) (by omega)).mono ?_;rintro e w3 ⟨z3,rfl,hb1,hcase⟩;open Sa271 in exact Ya72):P:=h
theorem Sa242.Ka63(h:P:=by
 go_wp2_with fail;refine(HOO _ _ HL2 (by omega)).mono ?_;rintro e w3 ⟨rfl,hb1⟩;open Sa270 in exact Ya72):P:=h
theorem Sa243.Ka63(h:P:=by
 cases h2:PS
 case' false=>
  have HP:=hide (show TT=false by rw [unhide HD];simp[h2])
  clear h2 HD
  go_wp2_with fail
  go_ret
  exact⟨ret_bool HP.symm,HL2⟩
 cases h3:smB next
 case' false=>
  have HP:=hide (show TT=false by rw [unhide HD];simp[h3])
  have H3:=hide (fun w1=>isSomeAmount next false w1 h3)
  clear h3 HD
  go_wp2_with (go_at_call 100;refine(H3 _).mono ?_;rintro e w9 ⟨rfl,rfl⟩)
  go_ret
  exact⟨ret_bool HP.symm,HL2⟩
 have H3:=hide (fun w1=>isSomeAmount next true w1 h3);go_wp2_with (go_at_call 100;refine(H3 _).mono ?_;rintro e w9 ⟨rfl,rfl⟩)
 refine(HOT _ HL2 h1).mono ?_;rintro e w3 ⟨rfl,hb1⟩;open Sa269 in exact Ya72):P:=h
theorem Ya64(h:P:=by
 obtain⟨k,z,hk,rfl,rfl,hz0,hz1,hall,hbel⟩:=hrel;have HALL:=hide hall;have HBL:=hide hbel;clear hall hbel;exact Ka64):P:=h
theorem Sa244.Ka64(h:P:=by
 by_cases hlt:k < l.length
 ·obtain⟨g,off,rfl,hgw,q0,q1,q2,q3⟩:=PursesAt.four (GR.At.below HA HBL) k hlt;open Sa188 in exact Ya46
 ·exact Za15):P:=h
theorem Sa245.Ka64(h:P:=by
 by_cases hlt:k < l.length
 ·obtain⟨g,off,rfl,hgw,q0,q1,q2,q3⟩:=SentAt.four (GR.At.below HA HBL) k hlt;open Sa189 in exact Ya46
 ·exact Za15):P:=h
theorem Sa246.Ka64(h:P:=by
 by_cases hlt:k < l.length
 ·obtain⟨g,off,rfl,hgw,q0,q1,q2,q3⟩:=ReqAt.four (GR.At.below HA HBL) k hlt;open Sa190 in exact Ya46
 ·exact Za15):P:=h
theorem Sa247.Ka64(h:P:=by
 by_cases hlt:k < l.length
 ·obtain⟨g,off,b,c,e0,hgw,q0,q1,q2,_⟩:=SeenAt.below HA HBL k hlt;subst e0;open Sa191 in exact Ya46
 ·exact Za15):P:=h
theorem Ya65(h:P:=by
 obtain⟨d0,d1,d2,d3,d4,d5,d6,d7,d8⟩:=nine HR2;have f0:=obj_free HR2 0;have f1:=obj_free HR2 1;have f2:=obj_free HR2 2;have f3:=obj_free HR2 3;have f4:=obj_free HR2 4;have f5:=obj_free HR2 5;have f6:=obj_free HR2 6;have f7:=obj_free HR2 7;have f8:=obj_free HR2 8;exact Ka65):P:=h
theorem Sa248.Ka65(h:P:=by
 have hrl:=obj_lt HR2;have hwl4:=obj_lt HW4.blk;refine wpAny_two 1 3 rfl rfl (by kernel_rfl) (by rfl) (by rfl) ?pA ?pB
 case' pB=>
  go_simp
  refine wpAny_one 1 rfl (by kernel_rfl) (by rfl) ?_
  go_simp
  refine wpAny_one 5 rfl (by kernel_rfl) (by rfl) ?_
  go_simp
  refine wpAny_one 6 rfl (by kernel_rfl) (by rfl) ?_
  go_simp
  refine wpAny_one 7 rfl (by kernel_rfl) (by rfl) ?_
  go_simp
  refine wpAny_done (by kernel_rfl) ?_
  go_simp
  clear c0 c1 c2 c3 c4 c5 c6 c7 c8 c9 d0 d1 d2 d3 d4 d5 d6 d7 d8 f0 f1 f2 f3 f4 f5 f6 f7 f8
  go_wp2_with fail
  refine bodyPost_atN (fun W' hW'=>?_)
  have e4:W'.heap[w.heap.size+2]?=some (.cells #[.int .i64 n3.id,.int .i64 n3.par,.slice A2.k n3.kids.length A2.ck,.int .i64 n3.next,.slice A2.p n3.pu.length A2.cp,.slice A2.o n3.out.length A2.co,.slice A2.s n3.seen.length A2.cs,.int .i64 n3.old,.slice A2.r n3.reqs.length A2.cr] 30 (0,0)):=by
   exact Za14
  have hkc:KC cc3 0 x W':=by
   exact Za24
  have HNF:=hide ((HW4.no.kc0 hkc).base HB.size)
  have HMF:=hide (own_base (hkc.own HW4.m HW4.cm (by omega)) HB.size)
  have HCF:=hide HW4.cm
  have HBF:Hid (Below w.heap.size w W'):=by
   exact Za20
  obtain⟨d0,d1,d2,d3,d4,d5,d6,d7,d8⟩:=nine e4
  clear hW' e4 hkc
  exact bodyPost_ret (v:= .tuple #[.agg #[.int .i64 n3.id,.int .i64 n3.par,.slice A2.k n3.kids.length A2.ck,.int .i64 n3.next,.slice A2.p n3.pu.length A2.cp,.slice A2.o n3.out.length A2.co,.slice A2.s n3.seen.length A2.cs,.int .i64 n3.old,.slice A2.r n3.reqs.length A2.cr],(.slice a3 L3.length cp3),.int .i64 code3]) (by simp[results,Tryz.results10,go_sem,d0,d1,d2,d3,d4,d5,d6,d7,d8]) rfl ⟨A2,G2,cc3,(.slice a3 L3.length cp3),rfl,HNF,HMF,HCF,HBF⟩
 case' pA=>
  go_simp
  refine wpAny_two 3 5 rfl rfl (by kernel_rfl) (by rfl) (by rfl) ?pA1 ?pA2
 case' pA1=>
  go_simp
  refine wpAny_one 5 rfl (by kernel_rfl) (by rfl) ?_
  go_simp
  refine wpAny_one 6 rfl (by kernel_rfl) (by rfl) ?_
  go_simp
  refine wpAny_one 7 rfl (by kernel_rfl) (by rfl) ?_
  go_simp
  refine wpAny_done (by kernel_rfl) ?_
  go_simp
  clear c0 c1 c2 c3 c4 c5 c6 c7 c8 c9 d0 d1 d2 d3 d4 d5 d6 d7 d8 f0 f1 f2 f3 f4 f5 f6 f7 f8
  go_wp2_with fail
  refine bodyPost_atN (fun W' hW'=>?_)
  have e4:W'.heap[w.heap.size+2]?=some (.cells #[.int .i64 n3.id,.int .i64 n3.par,.slice A2.k n3.kids.length A2.ck,.int .i64 n3.next,.slice A2.p n3.pu.length A2.cp,.slice A2.o n3.out.length A2.co,.slice A2.s n3.seen.length A2.cs,.int .i64 n3.old,.slice A2.r n3.reqs.length A2.cr] 30 (0,0)):=by
   exact Za14
  have hkc:KC cc3 0 x W':=by
   exact Za24
  have HNF:=hide ((HW4.no.kc0 hkc).base HB.size)
  have HMF:=hide (own_base (hkc.own HW4.m HW4.cm (by omega)) HB.size)
  have HCF:=hide HW4.cm
  have HBF:Hid (Below w.heap.size w W'):=by
   exact Za20
  obtain⟨d0,d1,d2,d3,d4,d5,d6,d7,d8⟩:=nine e4
  clear hW' e4 hkc
  exact bodyPost_ret (v:= .tuple #[.agg #[.int .i64 n3.id,.int .i64 n3.par,.slice A2.k n3.kids.length A2.ck,.int .i64 n3.next,.slice A2.p n3.pu.length A2.cp,.slice A2.o n3.out.length A2.co,.slice A2.s n3.seen.length A2.cs,.int .i64 n3.old,.slice A2.r n3.reqs.length A2.cr],(.slice a3 L3.length cp3),.int .i64 code3]) (by simp[results,Tryz.results10,go_sem,d0,d1,d2,d3,d4,d5,d6,d7,d8]) rfl ⟨A2,G2,cc3,(.slice a3 L3.length cp3),rfl,HNF,HMF,HCF,HBF⟩
 have c9f:=far9 (b0:= .int .i64 n3.id) (b1:= .int .i64 n3.par) (b2:= .slice A2.k n3.kids.length A2.ck) (b3:= .int .i64 n3.next) (b4:= .slice A2.p n3.pu.length A2.cp) (b5:= .slice A2.o n3.out.length A2.co) (b6:= .slice A2.s n3.seen.length A2.cs) (b7:= .int .i64 n3.old) (b8:= .slice A2.r n3.reqs.length A2.cr) hwr c9;go_simp;refine wpAny_one 3 rfl (by kernel_rfl) (by rfl) ?_;go_simp;refine wpAny_one 6 rfl (by kernel_rfl) (by rfl) ?_;go_simp;refine wpAny_one 7 rfl (by kernel_rfl) (by rfl) ?_;go_simp;refine wpAny_done (by kernel_rfl) ?_;go_simp;clear c0 c1 c2 c3 c4 c5 c6 c7 c8 c9 d0 d1 d2 d3 d4 d5 d6 d7 d8 f0 f1 f2 f3 f4 f5 f6 f7 f8 c9f;go_wp2_with fail;refine bodyPost_atN (fun W' hW'=>?_)
 have e4:W'.heap[w.heap.size+2]?=some (.cells #[.int .i64 n3.id,.int .i64 n3.par,.slice A2.k n3.kids.length A2.ck,.int .i64 n3.next,.slice A2.p n3.pu.length A2.cp,.slice A2.o n3.out.length A2.co,.slice A2.s n3.seen.length A2.cs,.int .i64 n3.old,.slice A2.r n3.reqs.length A2.cr] 30 (0,0)):=by
  exact Za14
 have hkc:KC cc3 0 x W':=by
  exact Za24
 have HNF:=hide ((HW4.no.kc0 hkc).base HB.size);have HMF:=hide (own_base (hkc.own HW4.m HW4.cm (by omega)) HB.size);have HCF:=hide HW4.cm
 have HBF:Hid (Below w.heap.size w W'):=by
  exact Za20
 obtain⟨d0,d1,d2,d3,d4,d5,d6,d7,d8⟩:=nine e4;clear hW' e4 hkc;exact bodyPost_ret (v:= .tuple #[.agg #[.int .i64 n3.id,.int .i64 n3.par,.slice A2.k n3.kids.length A2.ck,.int .i64 n3.next,.slice A2.p n3.pu.length A2.cp,.slice A2.o n3.out.length A2.co,.slice A2.s n3.seen.length A2.cs,.int .i64 n3.old,.slice A2.r n3.reqs.length A2.cr],(.slice a3 L3.length cp3),.int .i64 code3]) (by simp[results,Tryz.results10,go_sem,d0,d1,d2,d3,d4,d5,d6,d7,d8]) rfl ⟨A2,G2,cc3,(.slice a3 L3.length cp3),rfl,HNF,HMF,HCF,HBF⟩):P:=h
theorem Sa249.Ka65(h:P:=by
 have hwl:=obj_lt HW2.blk;have hrl:=obj_lt HR2;go_wp2_with fail;refine bodyPost_atN (fun W' hW'=>?_)
 have e4:W'.heap[w.heap.size+2]?=some (.cells #[.int .i64 n.id,.int .i64 n.par,.slice A1.k n.kids.length A1.ck,.int .i64 n.next,.slice A1.p n.pu.length A1.cp,.slice A1.o n.out.length A1.co,.slice A1.s n.seen.length A1.cs,.int .i64 n.old,.slice A1.r n.reqs.length A1.cr] 30 (0,0)):=by
  rw [hW'];exact GR.setW_blk [.int .i64 n.id,.int .i64 n.par,.slice A1.k n.kids.length A1.ck,.int .i64 n.next,.slice A1.p n.pu.length A1.cp,.slice A1.o n.out.length A1.co,.slice A1.s n.seen.length A1.cs,.int .i64 n.old,.slice A1.r n.reqs.length A1.cr] (o:=0) (xs:=[.int .i64 0,.int .i64 0,.slice none 0 0,.int .i64 0,.slice none 0 0,.slice none 0 0,.slice none 0 0,.int .i64 0,.slice none 0 0]) HR2
 have hkc:KC cc2 0 W2 W':=by
  rw [hW'];exact KC.setW (o:=0) [.int .i64 n.id,.int .i64 n.par,.slice A1.k n.kids.length A1.ck,.int .i64 n.next,.slice A1.p n.pu.length A1.cp,.slice A1.o n.out.length A1.co,.slice A1.s n.seen.length A1.cs,.int .i64 n.old,.slice A1.r n.reqs.length A1.cr] (HW2.no.lo _ (by omega))
 have HNF:=hide ((HW2.no.kc0 hkc).base HB.size);have HMF:=hide (own_base (hkc.own HW2.m HW2.cm (by omega)) HB.size);have HCF:=hide HW2.cm
 have HBF:Hid (Below w.heap.size w W'):=by
  rw [hW'];exact GR.setW_below (by omega) [.int .i64 n.id,.int .i64 n.par,.slice A1.k n.kids.length A1.ck,.int .i64 n.next,.slice A1.p n.pu.length A1.cp,.slice A1.o n.out.length A1.co,.slice A1.s n.seen.length A1.cs,.int .i64 n.old,.slice A1.r n.reqs.length A1.cr] (o:=0) (HB.trans (HW2.keep.mono HB.size))
 obtain⟨d0,d1,d2,d3,d4,d5,d6,d7,d8⟩:=nine e4;clear hW' e4 hkc;exact bodyPost_ret (v:= .tuple #[.agg #[.int .i64 n.id,.int .i64 n.par,.slice A1.k n.kids.length A1.ck,.int .i64 n.next,.slice A1.p n.pu.length A1.cp,.slice A1.o n.out.length A1.co,.slice A1.s n.seen.length A1.cs,.int .i64 n.old,.slice A1.r n.reqs.length A1.cr],(.slice none 0 0),.int .i64 3]) (by simp[results,Tryz.results10,go_sem,d0,d1,d2,d3,d4,d5,d6,d7,d8]) rfl ⟨A1,G1,cc2,(.slice none 0 0),rfl,HNF,HMF,HCF,HBF⟩):P:=h
theorem Ya66(h:P:=by
 have hblk:V.heap[wr.heap.size]?=some (.cells #[.string pk,.int .i64 pm,.int .i64 pf,.int .i64 ps] 141 (0,0)):=by rw [hV];exact heap_alloc_new wr _
 exact Ka66):P:=h
theorem Sa250.Ka66(h:P:=by
 have hPV:=HP.below hbV;have HPV:=hide hPV;have HBK:=hide hblk;have HVS:=hide (show V.heap.size=wr.heap.size+1 by rw [hV];simp);have HBV:=hide (HBL.trans (hbV.mono HBL.size));obtain⟨⟨p0,p1,p2,p3⟩,_⟩:=four_at hblk;obtain⟨⟨n0,n1⟩,f0,f1⟩:=two_at hPV.blk
 have HRW:=hide (show V.ownsRow w.heap.size 9 1 (.slice aa k cc) k (((l.take k).map (·.k)).map Value.string) by
  have:=hPV.row
  rw [List.length_map,List.length_take,Nat.min_eq_left hk] at this
  exact this)
 have HGR:=hide (show∀w2:World,((V.alloc (.cells #[.string pk] 9)).drew).grownBy w2 (Value.slice aa k cc).ownBlock→
  w2.heap[w1.heap.size+1]?=some (.cells #[.slice aa k cc,.map (some w1.heap.size)] 308 (0,0))∧w2.heap[w1.heap.size]?=V.heap[w1.heap.size]?∧w2.heap[wr.heap.size]?=V.heap[wr.heap.size]?∧Below w.heap.size V w2 by
  intro w2 hg
  have hb:∀q,q < V.heap.size→(Value.slice aa k cc).ownBlock≠some q→w2.heap[q]?=V.heap[q]?:=fun q hq hne=>by
   rw [hg.block q (by show q < (V.alloc _).heap.size;simp;omega) (Ne.symm hne)]
   exact Below.heap_alloc V _ _ hq
  obtain⟨es,clock,hmap⟩:=hPV.map.blk
  refine⟨?_,hb _ hPV.map.lt (own_ne_map HRW hmap),hb _ (Fo.lt_of_blk hblk) (own_ne HRW hblk (by decide)),?_⟩
  ·rw [hb _ (Fo.lt_of_blk hPV.blk) (own_ne (unhide HRW) hPV.blk (by decide))];exact hPV.blk
  ·refine⟨hg.os,hg.tape,hg.output,Nat.le_trans (by show V.heap.size≤(V.alloc _).heap.size;simp) hg.size,fun q hq=>hb q (by have:=HBV.size;omega) (fun e=>?_)⟩;have:=HRW.lt _ e
   omega)
 have n2:(V.alloc (.cells #[.string pk] 9)).cell? ⟨w1.heap.size+1,0,none⟩=some (.slice aa k cc):=by rw [World.cell?_alloc_lt _ _ _ (Fo.lt_of_blk hPV.blk)];exact n0
 clear hblk hbV hPV hV c0 c1 c2 c3 n1 f1;go_region_law (refine step_append_lies _ rfl (.tmp 24) (.tmp 27) 130 rfl w.heap.size 9 i0 (.string ⟨#[]⟩) 1 16 Tryz.underlying130 hi hz0 hz1 hz2 rfl (by decide) (.slice aa k cc) k (((l.take k).map (·.k)).map Value.string) (by simp[Act.eval]) (HRW.alloc _).drew ⟨V.heap.size,0,none⟩ 1 1 [.string pk] (by simp[Act.eval]) rfl (World.news_of_block (w:=(V.alloc (.cells #[.string pk] 9)).drew) (heap_alloc_new V _)) (fun u hu=>by rw [List.mem_singleton.1 hu];rfl) (by omega) (by unfold maxLen;omega) (by omega) (by have:=HBV.size;simp;omega) (V.heap.size+1) (by simp) ?_;intro g' cap' w2 hown hgrow hat hlt2;have hK2:=unhide HGR w2 hgrow;have HOW:=hide hown;clear hown hgrow hat hlt2;have HM2:=hide hK2.1;have HX2:=hide hK2;obtain⟨⟨y0,y1⟩,z0,z1⟩:=two_at hK2.1;clear hK2 y1 z1)
 all_goals
  go_upto_region 8 with fail
  refine Fo.wp_at (fun V3 hV3=>?_)
  obtain⟨hx1,hx2,hx3,hx4⟩:=unhide HX2
  have hmpV:w1.heap.size+1 < wr.heap.size:=Fo.lt_of_blk HP.blk
  have hblk3:V3.heap[w1.heap.size+1]?=some (.cells #[.slice (some ⟨g',0,none⟩) (k+1) cap',.map (some w1.heap.size)] 308 (0,0)):=by rw [hV3];exact Fo.blk_set hx1 0 _
  have hpb3:V3.heap[wr.heap.size]?=some (.cells #[.string pk,.int .i64 pm,.int .i64 pf,.int .i64 ps] 141 (0,0)):=by
   rw [hV3,Fo.one_other rfl (by omega),hx3];exact HBK
  have hmap3:MapIs V3 w1.heap.size k (purseOf (l.take k)):=HPV.map.kept (by rw [hV3,Fo.one_other rfl (by omega),hx2])
  have hrow3:V3.ownsRow w.heap.size 9 1 (.slice (some ⟨g',0,none⟩) (k+1) cap') (k+1) (((l.take k).map (·.k)).map Value.string++[.string pk]):=by
   rw [hV3];exact HOW.kept (w':=w2.setCell ⟨w1.heap.size+1,0,none⟩ _) (row:=some (w1.heap.size+1)) ⟨rfl,rfl,rfl,by rw [Fo.setCell_size];exact Nat.le_refl _,fun q _ hne=>Fo.one_other rfl (fun e=>hne (by rw [e]))⟩ (.inr (own_ne HOW hx1 (by decide)))
  have hkeys:(l.take (k+1)).map (·.k)=(l.take k).map (·.k)++[pk]:=by rw [unhide HTK];simp
  have HPM3:=hide (show PM V3 w.heap.size (w1.heap.size+1) w1.heap.size k (.slice (some ⟨g',0,none⟩) (k+1) cap') ((l.take (k+1)).map (·.k)) (purseOf (l.take k)) by
   refine⟨hblk3,?_,hmap3,HP.lop,HP.lom⟩
   rw [hkeys,List.map_append,List.length_append,List.length_map,List.length_take,Nat.min_eq_left hk]
   exact hrow3)
  have HB3:=hide (show Below w.heap.size w V3 by rw [hV3];exact(HBV.trans hx4).setCell (p:=⟨w1.heap.size+1,0,none⟩) HP.lop _)
  have HPUT:=hide (implPut (w1.heap.size+1) w1.heap.size k _ (purseOf (l.take k)) ⟨pk,pm,pf,ps⟩ V3 hkk (by unfold maxLen;omega) hblk3 hmap3)
  obtain⟨⟨r0,r1,r2,r3⟩,_⟩:=four_at hpb3
  clear hx1 hx2 hx3 hx4 hblk3 hpb3 hmap3 hrow3 hkeys hV3 y0 z0 n0 n2 p0 p1 p2 p3 f0
  go_wp2_with fail
  refine HPUT.mono ?_
  rintro e w5 ⟨rfl,hm5,hk5⟩
  have HP5:=hide (HPM3.turned hk5 hm5)
  have HB5:=hide (HB3.trans (keeps_below hk5 HP.lom HB3.size))
  clear hm5 hk5 r0 r1 r2 r3
  go_wp2_with fail
  go_roundw
  case rel=>
   have h:=unhide HP5;rw [unhide HUP] at h;exact⟨k+1,_,_,by omega,by go_num,h,HB5⟩
  case measure=>simp[intOf];omega):P:=h
theorem Sa251.Ka66(h:P:=by
 have HBV:=hide (show Below w.heap.size w V by rw [hV];exact HBL.alloc HBL.size _);have hgV:=Fo.lt_of_blk hblk;obtain⟨⟨p0,p1,p2,p3⟩,_⟩:=four_at hblk;exact Ka7):P:=h
theorem Ya67(h:P:=by
 have mixed:Tryz.prog.follows .mixedOrders=true:=by kernel_rfl
 have hw1:IntKind.i64.wrap ((i:Int)+1)=(i:Int)+1:=IntWalk.i64_in _ ⟨by omega,by omega⟩;have hb1:(0:Int)≤(i:Int)+1:=by omega
 have hin:i≤l.length:=by omega
 have htn:((i:Int)+1).toNat=i+1:=by omega
 exact Ka67):P:=h
theorem Sa252.Ka67(h:P:=by
 have hb2:¬(cap=i+1):=by omega
 have hb3:(i:Int)≤(l.length:Int)+1:=by omega
 have hb4:¬(cap=i):=by omega
 have hc63:cap≤9223372036854775807:=by unfold maxLen at hcm;omega
 clear hcs hcl hdl hv hblk htake hcm hr1 hcsl hb1r hvr;go_enter Tryz.func188,Tryz.ntmps188
 go_wp2_with (simp only[hov])
 go_region_law_o (refine step_copy_runI rfl _ _ 28 28 rfl _ _ (by simp[Act.eval,Act.put]) (by simp[Act.eval,Act.put]) (hcp1 _ _ _ _ _ (by omega) (by omega)) ?_)
 go_wp2_with (at_builtin;refine wpList_copy_runI _ rfl _ _ 28 28 rfl _ _ rfl rfl (hcp2 _ _ _ (by omega)) ?_)
 go_ret;exact⟨rfl,hfin.1,hfin.2⟩):P:=h
theorem Sa253.Ka67(h:P:=by
 have hb3:(i:Int)≤(l.length:Int):=by omega
 have hGi:¬(G=i):=by omega
 have hGim:¬(G=i+1):=by omega
 have hci:¬(cap=i):=by omega
 have hG63:G≤9223372036854775807:=by unfold maxLen at hGm;omega
 have hz3:(cap:Int) < (l.length:Int)+1:=by omega
 have hA2:=hA ((w.alloc (.cells R 49)).drew) rfl;have hB2:=hB ((((w.alloc (.cells R 49)).drew).setRow w.heap.size (rowA R.toList i q).toArray).drew) rfl;clear hblk hv htake hcell hdl htl hRs hRl hRt hBb hi0 hz0 hz1 hz2 hA hB;go_enter Tryz.func188,Tryz.ntmps188
 go_upto_region 10 with(at_builtin;refine Lib.wpList_append_run _ rfl _ _ _ _ rfl _ _ rfl rfl _ _ (hrz _) ?_)
 go_wp2_with (first
  |(at_builtin;refine wpList_copy_runI _ rfl _ _ 28 28 rfl _ _ rfl rfl (hA2 _ _ _ (by omega)) ?_))
 go_region_law_o (refine step_copy_runI rfl _ _ 28 28 rfl _ _ (by simp[Act.eval,Act.put]) (by simp[Act.eval,Act.put]) (hB2 _ _ _ _ _ (by omega) (by omega)) ?_)
 go_wp2
 go_ret;obtain⟨f1,f2⟩:=unhide HFIN ((((w.alloc (.cells R 49)).drew).setRow w.heap.size (rowA R.toList i q).toArray).drew) rfl rfl rfl rfl;exact⟨G,_,rfl,hGn,hGm,f1,HSZ,HTK,f2⟩):P:=h
theorem Ya68(h:P:=by
 have f0:=GR.Blk.free HB5 (k*4);have f1:=GR.Blk.free HB5 (k*4+1);have f2:=GR.Blk.free HB5 (k*4+2);have f3:=GR.Blk.free HB5 (k*4+3);go_wp2_with fail;exact Ka68):P:=h
theorem Sa254.Ka68(h:P:=by
 go_roundw
 case rel=>
  have h:=GR.Blk.set HB5 encRq_length k (by omega) ⟨pno,pk,pn,ps⟩;rw [unhide TS] at h;exact⟨k+1,by omega,by go_num,h,GR.setW_below (o:=k*4) (Nat.le_refl w.heap.size) (encRq ⟨pno,pk,pn,ps⟩) HBL5⟩
 case measure=>simp[intOf];omega):P:=h
theorem Sa255.Ka68(h:P:=by
 go_roundw
 case rel=>
  have h:=GR.Blk.set HB5 encSnt_length k (by omega) ⟨pi,pt,pk,pn⟩;rw [unhide TS] at h;exact⟨k+1,by omega,by go_num,h,GR.setW_below (o:=k*4) (Nat.le_refl w.heap.size) (encSnt ⟨pi,pt,pk,pn⟩) HBL5⟩
 case measure=>simp[intOf];omega):P:=h
theorem Sa256.Ka68(h:P:=by
 go_roundw
 case rel=>
  have h:=GR.Blk.set HB5 encP_length k (by omega) ⟨pk,pm,pf,ps⟩;rw [unhide TS] at h;exact⟨k+1,by omega,by go_num,h,GR.setW_below (o:=k*4) (Nat.le_refl w.heap.size) (encP ⟨pk,pm,pf,ps⟩) HBL5⟩
 case measure=>simp[intOf];omega):P:=h
theorem Ya69(h:P:=by
 obtain⟨c0,c1,c2,c3,c4,c5,c6,c7,c8,c9⟩:=tenC HW1.blk;obtain⟨⟨p0,p1,p2,p3,p4,p5,p6,p7,p8,p9,p10⟩,_⟩:=eleven_at HP1;exact Ka69):P:=h
theorem Sa257.Ka69(h:P:=by
 have hwl:=obj_lt HW.blk;have hne:wb≠w.heap.size:=by omega
 exact Ka2):P:=h
theorem Sa258.Ka69(h:P:=by
 go_enter Tryz.func110,Tryz.ntmps110
 go_upto_region 1 with fail;have y1:=cell_regrown c1;open Sa331 in exact Ya97):P:=h
theorem Sa259.Ka69(h:P:=by
 go_enter Tryz.func109,Tryz.ntmps109
 go_upto_region 3 with fail;have y0:=cell_regrown c0;have y1:=cell_regrown c1;open Sa330 in exact Ya97):P:=h
theorem Sa260.Ka69(h:P:=by
 have hwl:=obj_lt HW.blk;have hne:wb≠w.heap.size:=by omega
 go_enter Tryz.func106,Tryz.ntmps106
 go_upto_region 1 with fail;have y1:=cell_regrown c1;have y4:=cell_regrown c4;open Sa329 in exact Ya97):P:=h
theorem Ya70(h:P:=by
 go_enter Tryz.func264,Tryz.ntmps264
 go_wp2_with fail;refine HBS.mono ?_;rintro e w1 ⟨rfl,q,rfl⟩;rw [hf];exact Ka70):P:=h
theorem Sa261.Ka70(h:P:=by
 go_wp2_with fail;go_ret;exact⟨⟨rfl,rfl,rfl,Nat.le_refl _,fun _ _=>rfl⟩,fun _ _ _ _=>rfl,.inl ⟨by first|trivial|rfl,rfl,HH.drewN⟩⟩):P:=h
theorem Sa262.Ka70(h:P:=by
 clear HBS
 have HIN:=hide (insRow B (.slice a l.length cap) (l.map (·.k)) (place l key) key w.heap.size ((w.drewN q).alloc (.cells #[.string key] 9)) (by rw [List.length_map];exact place_le l key) (by rw [List.length_map];exact hl) (by simp;omega)
  (World.ownsRow.alloc (w:=w.drewN q) HH.row _) (heap_alloc_new (w.drewN q) _) (fun e=>by have:=HR.lt _ e;omega))
 go_wp2_with fail;refine HIN.mono ?_;rintro e w2 ⟨v',rfl,hown,hgr⟩;rw [List.length_map,insK_val,←insK_length l key] at hown;obtain⟨g',cap',rfl,_,_⟩:=hown.form (by rw [insK_length];omega)
 have hlt:∀k,k < w.heap.size→(Value.slice a l.length cap).ownBlock≠some k→w2.heap[k]?=w.heap[k]?:=fun k hk hne=>by
  rw [hgr.block k (by simp;omega) (Ne.symm hne)]
  exact Below.heap_alloc (w.drewN q) _ _ hk
 have hm2:w2.heap[mp]?=some (.cells #[.slice a l.length cap,.map (some mb)] 308 (0,0)):=by rw [hlt mp hmp (own_ne (unhide HR) (unhide HH).blk (by decide))];exact HH.blk
 have hb2:w2.heap[mb]?=w.heap[mb]?:=by
  obtain⟨es,clock,hbk⟩:=HH.map.blk;exact hlt mb hmb (own_ne_map HR hbk)
 have hbw:Below B w w2:=by
  refine⟨hgr.os,hgr.tape,hgr.output,Nat.le_trans (by simp) hgr.size,fun k hk=>hlt k (by omega) (fun e=>?_)⟩;have:=HR.lt _ e;omega
 have HO:=hide hown;have HM2:=hide hm2;have HB2:=hide hb2;have HBW:=hide hbw;have HLT:=hide hlt;obtain⟨⟨n0,n1⟩,g0,g1⟩:=two_at hm2;clear hown hgr hlt hm2 hb2 hbw HIN n1 g1;go_wp2_with fail;go_ret;refine⟨HBW.setCell (p:=⟨mp,0,none⟩) HH.lop _,fun k hk hne1 hne2=>Fo.one_other (HLT k hk hne2) hne1,.inr (.inr ⟨by first|trivial|rfl,by omega,rfl,.slice (some ⟨g',0,none⟩) (insK l key).length cap',?_,?_,?_,HH.lop,HH.lom⟩)⟩
 ·exact Fo.blk_set HM2 0 _
 ·refine HO.kept (w':=w2.setCell ⟨mp,0,none⟩ _) (row:=some mp) ⟨rfl,rfl,rfl,by rw [Fo.setCell_size];exact Nat.le_refl _,fun k _ hne=>Fo.one_other rfl (fun e=>hne (by rw [e]))⟩ (.inr (own_ne HO HM2 (by decide)))
 ·refine HH.map.kept ?_;rw [Fo.one_other (unhide HB2) (Ne.symm (unhide HH).mpmb)]):P:=h
theorem Sa263.Ka70(h:P:=by
 go_wp2_with fail;go_ret;exact⟨⟨rfl,rfl,rfl,Nat.le_refl _,fun _ _=>rfl⟩,fun _ _ _ _=>rfl,.inr (.inl ⟨by first|trivial|rfl,H20,rfl⟩)⟩):P:=h
theorem Ya71(h:P:=by
 obtain⟨k,m,hk,rfl,rfl,hm,hbel⟩:=hrel;have HM:=hide hm;have HBL:=hide hbel;clear hbel;exact Ka71):P:=h
theorem Sa264.Ka71(h:P:=by
 by_cases hlt:k < l.length
 ·have hm0:0 < m:=by omega
  have hm1:(m:Int)≤92233720368547758:=by omega
  obtain⟨e0,hgl,s0,_⟩:=GR.W.one (GR.W.below HA HBL) k (by rw [mks_length mkInt 1 s l l.length (Nat.le_refl _)];exact hlt);rw [mks_at mkInt 1 s l l.length k hlt (Nat.le_refl _),←hm] at s0;dsimp only[mkInt] at s0;subst e0;clear hm;go_wp2_with fail;first|go_quiet (fail)|skip
  go_wp2_with fail;go_roundw
  case rel=>exact⟨k+1,m+1,by omega,by go_num,by go_num,by have:=unhide HM;omega,HBL.trans ⟨rfl,rfl,rfl,Nat.le_refl _,fun _ _=>rfl⟩⟩
  case measure=>simp[intOf];omega
 ·exact Za22):P:=h
theorem Sa265.Ka71(h:P:=by
 by_cases hlt:k < l.length
 ·have hm0:0 < m:=by omega
  have hm1:(m:Int)≤92233720368547758:=by omega
  obtain⟨e0,hgl,⟨s0,s1,s2,s3⟩,_⟩:=GR.W.fourReq (GR.W.below HA HBL) k (by rw [mks_length mkReq 4 s l l.length (Nat.le_refl _)];exact hlt);rw [mks_at mkReq 4 s l l.length k hlt (Nat.le_refl _),←hm] at s0 s1 s2 s3;dsimp only[mkReq] at s0 s1 s2 s3;subst e0;have HMT:=hide (fun z w1 (hz:z=((m+1:Nat):Int))=>markTextI (m+1) z w1 hz (by omega) (by omega));exact Za8
 ·exact Za22):P:=h
theorem Sa266.Ka71(h:P:=by
 by_cases hlt:k < l.length
 ·have hm0:0 < m:=by omega
  have hm1:(m:Int)≤92233720368547758:=by omega
  obtain⟨e0,hgl,⟨s0,s1,s2,s3⟩,_⟩:=GR.W.fourSent (GR.W.below HA HBL) k (by rw [mks_length mkSent 4 s l l.length (Nat.le_refl _)];exact hlt);rw [mks_at mkSent 4 s l l.length k hlt (Nat.le_refl _),←hm] at s0 s1 s2 s3;dsimp only[mkSent] at s0 s1 s2 s3;subst e0;have HMT:=hide (fun z w1 (hz:z=((m+2:Nat):Int))=>markTextI (m+2) z w1 hz (by omega) (by omega));exact Za8
 ·exact Za22):P:=h
theorem Sa267.Ka71(h:P:=by
 by_cases hlt:k < l.length
 ·have hm0:0 < m:=by omega
  have hm1:(m:Int)≤92233720368547758:=by omega
  obtain⟨e0,hgl,⟨s0,s1,s2,s3⟩,_⟩:=GR.W.fourPurse (GR.W.below HA HBL) k (by rw [mks_length mkPurse 4 s l l.length (Nat.le_refl _)];exact hlt);rw [mks_at mkPurse 4 s l l.length k hlt (Nat.le_refl _),←hm] at s0 s1 s2 s3;dsimp only[mkPurse] at s0 s1 s2 s3;subst e0;have HMT:=hide (fun z w1 (hz:z=((m+0:Nat):Int))=>markTextI (m+0) z w1 hz (by omega) (by omega));exact Za8
 ·exact Za22):P:=h
theorem Sa268.Ka71(h:P:=by
 by_cases hlt:k < l.length
 ·open Sa206 in exact Ya51
 ·open Sa72 in exact Ya17):P:=h
theorem Ya72(h:P:=by
 have HB3:=hide (obj_step HB2 hb1);have HL3:=hide (HL2.trans (hb1.mono HL2.size));clear hb1 c0 c1 c2 c3 c4 c5 c6 c7 c8;obtain⟨c0,c1,c2,c3,c4,c5,c6,c7,c8⟩:=nine HB3;exact Ka72):P:=h
theorem Sa269.Ka72(h:P:=by
 cases h4:OT
 case' false=>
  have HP:=hide (show TT=false by rw [unhide HD];simp[h4])
  clear h4 HD
  go_wp2_with fail
  go_ret
  exact⟨ret_bool HP.symm,HL3⟩
 go_wp2_with fail;refine(HSE _ HL3 h1).mono ?_;rintro e w4 ⟨rfl,hb1⟩;open Sa302 in exact Ya84):P:=h
theorem Sa270.Ka72(h:P:=by
 go_wp2_with fail;refine(HSS _ _ HL3 (by omega)).mono ?_;rintro e w4 ⟨rfl,hb1⟩;open Sa301 in exact Ya84):P:=h
theorem Sa271.Ka72(h:P:=by
 rcases hcase with rfl|⟨p0,p1,p2,p3⟩
 case' inl=>
  go_wp2_with fail
  go_ret
  exact⟨-1,rfl,HL3,.inl rfl⟩
 have K3:=hide (And.intro p2 p3);have q5:decide (z3 < 0)=false:=decide_eq_false (by omega);clear p2 p3;go_wp2_with fail;refine(HR _ _ HL3 (by omega) (by omega)).mono ?_;rintro e w4 ⟨z4,rfl,hb1,hcase⟩;open Sa300 in exact Ya84):P:=h
theorem Ya73(h:P:=by
 obtain⟨⟨p0,p1,p2,p3,p4,p5,p6,p7,p8,p9,p10⟩,_⟩:=eleven_at HPZ;have hpl:=obj_lt HPZ;go_wp2_with fail;refine(HRA z HZ).mono ?_;rintro e w1 ⟨rfl,hb1⟩;have HZ1:=hide (HZ.step hb1);clear hb1 HRA p0 p1 p2 p3 p4 p5 p6 p7 p8 p9 p10 HZ HPZ;exact Ka73):P:=h
theorem Sa272.Ka73(h:P:=by
 obtain⟨g,hAr,hgw,hgl,⟨q0,q1,q2,q3⟩,qf⟩:=HZ1.reqRow i hil;obtain⟨d0,d1,d2,d3,d4,d5,d6,d7,d8,d9⟩:=tenC HZ1.blk;rw [hAr] at d8;have hwl1:=obj_lt HZ1.blk;have hilI:(i:Int) < (n.reqs.length:Int):=by omega
 rw [hs] at q3;go_upto_region 7 with fail;refine wp_at (fun W hW=>?_);obtain rfl:=hW;exact Ka29):P:=h
theorem Sa273.Ka73(h:P:=by
 go_wp2_with fail;go_ret;exact⟨rfl,A,G,c,HZ1⟩):P:=h
theorem Ya74(h:P:=by
 refine wp_region_mixE 20 (by kernel_rfl) ?_;show wpMixE _ _ _ _ _ 23 (Array.replicate 23 false) _ _
 refine tk [0,1,2,3,4,5,6,7,8,9,10,11,12,13,14,15,16] ?_;iterate 17 (refine tkE (fun K hK=>?_);go_simp;refine hK _ ?_;clear hK K)
 refine tkN ?_;exact Ka74):P:=h
theorem Sa274.Ka74(h:P:=by
 clear y1 y4 z2 z3;refine wpMixE_one 17 rfl (by kernel_rfl) (by rfl) (fun x hx=>?_);go_simp;have HBX:=hide ((below_one w (.cells #[.int .i64 K,.int .i64 no,.string k,.int .i64 nn,.int .i64 mK,.int .i64 mF,.int .i64 mT,.int .i64 mI,.int .i64 mL,.string mk,.int .i64 mN] 34)).trans (hx.mono (by simp)));clear hx;refine(HMI x HBX).mono ?_;rintro e y ⟨a,cp,g,hg,rfl,hp,hby⟩;refine⟨hby,?_⟩;have HBY:=hide (HBX.trans (hby.mono HBX.size));have HST:=hide (fun z (hz:Ge y z)=>settleW (cp:=cp) HW (HBY.trans (hz.mono HBY.size)) (Nat.le_trans HBX.size hg) (hp.below hz));clear hby hg hp HMI;refine tk [18,19] ?_;iterate 2 (refine tkE (fun K hK=>?_);go_simp;refine hK _ ?_;clear hK K)
 refine tkN ?_;refine wpMixE_leave (by kernel_rfl) (fun z hz=>?_);refine wpAny_one 20 rfl (by kernel_rfl) (by rfl) ?_;go_simp;refine(HST z hz).mono ?_;rintro e z2 ⟨rfl,A',G',c',hZ⟩;have HZ:=hide hZ;clear hZ HST hz;open Sa306 in exact Ya86):P:=h
theorem Sa275.Ka74(h:P:=by
 clear y4 z3 z5 z6 x1;refine wpMixE_one 17 rfl (by kernel_rfl) (by rfl) (fun x hx=>?_);go_simp;have HBX:=hide ((below_one w (.cells #[.int .i64 mK,.int .i64 mF,.int .i64 mT,.int .i64 mI,.int .i64 mL,.string mk,.int .i64 mN] 32)).trans (hx.mono (by simp)));have HXP:=hide (obj_step HP1 hx);clear hx;refine(HGN x HBX).mono ?_;rintro e y ⟨a,cp,g,hg,rfl,hp,hby⟩;refine⟨hby,?_⟩;have HBY:=hide (HBX.trans (hby.mono HBX.size));have HYP:=hide (obj_step HXP hby);have HST:=hide (fun z (hz:Ge y z)=>settleK (cp:=cp) HW.wk (HBY.trans (hz.mono HBY.size)) (Nat.le_trans HBX.size hg) (hp.below hz));clear hby hg hp HGN;refine tk [18,19] ?_;iterate 2 (refine tkE (fun K hK=>?_);go_simp;refine hK _ ?_;clear hK K)
 refine tkN ?_;refine wpMixE_leave (by kernel_rfl) (fun z hz=>?_);have HBZ:=hide (HBY.trans (hz.mono HBY.size));have HZP:=hide (obj_step HYP hz);refine wpAny_one 20 rfl (by kernel_rfl) (by rfl) ?_;go_simp;refine(HST z hz).mono ?_;rintro e z2 ⟨rfl,A',G',c',hZ,hko,hcc⟩;have HZ:=hide (HW.settled HBZ hZ hko hcc);have HP2:=hide (hko w.heap.size _ (by omega) HZP);have HKO:Hid (∀j o,j≠wb→w.heap[j]?=some o→z2.heap[j]?=some o):=fun j o h1 h2=>hko j o h1 (obj_step h2 HBZ)
 clear hZ hko hcc HST hz HBZ HZP HYP HBY HXP HBX;open Sa305 in exact Ya86):P:=h
theorem Ya75(h:P:=by
 rcases ho.2 with⟨_,hy⟩|⟨g,cp,cur,hx,hbg,hgg,hnc,hcm,hcs,htk⟩
 ·omega
 simp only[Value.slice.injEq] at hx;obtain⟨rfl,_,rfl⟩:=hx;exact Ka75):P:=h
theorem Sa276.Ka75(h:P:=by
 by_cases hroom:l.length+1≤cap
 ·refine(insReq_shift g cap i l q vb w cur hl hi2 hroom hcm (hne g rfl) hgg hcs htk hv).mono ?_;rintro e w' ⟨rfl,hb,hgr⟩;have hcl:(l.length+1)*4≤cur.toList.length:=by rw [show cur.toList.length=cur.size from Array.length_toList,hcs];omega
  refine⟨some ⟨g,0,none⟩,cap,by rw [hlen],?_,hgr,fun x hx=> .inl hx⟩;rw [hlen];refine⟨hfl,.inr ⟨g,cap,_,rfl,hbg,hb,hroom,hcm,?_,?_⟩⟩
  ·rw [List.size_toArray,row2_len _ _ _ _ hi2 hcl,show cur.toList.length=cur.size from Array.length_toList,hcs]
  ·exact row2_take cur.toList l i q hi2 hcl htk
 ·refine(insReq_grow g cap i l q vb w cur hl hi2 hnc (by omega) hgg htk hv).mono ?_;rintro e w' ⟨G,cur',rfl,hG,hGm,hb,hs,ht,hgr⟩;refine⟨some ⟨w.heap.size,0,none⟩,G,by rw [hlen],?_,⟨hgr.os,hgr.tape,hgr.output,hgr.size,fun k hk _=>hgr.block k hk (by simp)⟩,fun x hx=> .inr ?_⟩
  ·rw [hlen];exact⟨hfl,.inr ⟨w.heap.size,G,cur',rfl,hB,hb,hG,hGm,hs,ht⟩⟩
  ·have:w.heap.size=x:=by simpa [Value.ownBlock] using hx
   omega):P:=h
theorem Sa277.Ka75(h:P:=by
 refine(delReq_at g cap l w cur h2 hl hnc hcm hgg hcs htk).mono ?_;rintro e w' ⟨rfl,hb,hgr⟩;have hcl:l.length*4≤cur.toList.length:=by rw [show cur.toList.length=cur.size from Array.length_toList,hcs];omega
 refine⟨some ⟨g,0,none⟩,cap,by rw [hlen],?_,hgr,fun x hx=> .inl hx⟩;rw [hlen];refine⟨by rw [flatQ_len,hlen],.inr ⟨g,cap,_,rfl,hbg,hb,by omega,hcm,?_,?_⟩⟩
 ·rw [List.size_toArray,rowD_len _ _ h2 hcl,show cur.toList.length=cur.size from Array.length_toList,hcs]
 ·exact rowD_take cur.toList l h2 hcl):P:=h
theorem Sa278.Ka75(h:P:=by
 have hce:cur=(GR.flat encSnt l++cur.toList.drop (l.length*4)).toArray:=by
  rw [←htk,List.take_append_drop,Array.toArray_toList]
 have hlr:l.length*4+(cur.toList.drop (l.length*4)).length=cap*4:=by
  rw [List.length_drop,show cur.toList.length=cur.size from Array.length_toList,hcs];omega
 rw [hce] at hgg;have hlen:(l.eraseIdx (ackI l m)).length=l.length - 1:=List.length_eraseIdx_of_lt h;refine(delSent_at g cap l _ B (ackI l m) m w hl h hno hnc hcm hlr hB hgg hix).mono ?_;rintro e w' ⟨rfl,⟨r2,hS2,hr2⟩,hgr⟩;refine⟨some ⟨g,0,none⟩,cap,by rw [hlen],?_,hgr,fun x hx=>hx⟩;rw [hlen];refine⟨by rw [flatS_len,hlen],.inr ⟨g,cap,_,rfl,hbg,hS2,by omega,hcm,?_,?_⟩⟩
 ·rw [List.size_toArray,List.length_append,flatS_len,hlen];exact hr2
 ·exact List.take_left' (by rw [flatS_len,hlen])):P:=h
theorem Ya76(h:P:=by
 have y0:=cell_regrown p0;have y1:=cell_regrown p1;have y2:=cell_regrown p2;have y3:=cell_regrown p3;exact Ka76):P:=h
theorem Sa279.Ka76(h:P:=by
 have y4:=cell_regrown c4;clear HO p0 p1 p2 p3 c4;open Sa60 in exact Ya14):P:=h
theorem Sa280.Ka76(h:P:=by
 have y4:=cell_regrown p4;have y5:=cell_regrown p5;have y6:=cell_regrown p6;exact Ka36):P:=h
theorem Sa281.Ka76(h:P:=by
 clear HO p0 p1 p2 p3;open Sa58 in exact Ya14):P:=h
theorem Sa282.Ka76(h:P:=by
 clear HO p0 p1 p2 p3;open Sa59 in exact Ya14):P:=h
theorem Sa283.Ka76(h:P:=by
 have y4:=cell_regrown c4;clear HO p0 p1 p2 p3 c4;open Sa61 in exact Ya14):P:=h
theorem Ya77(h:P:=by
 have HRA:=hide (fun w1 (hw:WK w0 w1 wb n A G c v L)=>wkReqAt w0 w1 wb n A G c v L o.no hok h0 h1 hw);rw [hf] at HRA;have hlen:=(reqs_asc hok).2.1;exact Ka77):P:=h
theorem Sa284.Ka77(h:P:=by
 clear hR h0 h1 hok hf hgd hino;generalize reqI n.reqs o.no=i at *;open Sa16 in exact Ya2):P:=h
theorem Sa285.Ka77(h:P:=by
 generalize reqI n.reqs o.no=i at *;generalize sameQ n.reqs[i] o.k o.n=SQ at *;clear hR h0 h1 hok hf hgd;open Sa13 in exact Ya2):P:=h
theorem Sa286.Ka77(h:P:=by
 clear hR h0 h1 hok hf hgd hino;generalize reqI n.reqs o.no=i at *;have HUN:=hide (fun w1 (hw:WK w0 w1 wb n A G c v L)=>implUnspend A.p A.cp n.pu n.reqs[i].k n.reqs[i].n E w1 hz.p hz.pk (hz.rk _ (List.getElem_mem hil)) hw.no.p.at (he.below hw.keep));unfold GivesP at HUN;generalize addP n.pu n.reqs[i].k 0 1 (-1) n.reqs[i].n=r at *;open Sa10 in exact Ya2):P:=h
theorem Ya78(h:P:=by
 refine wp_at (fun W1 hW1=>?_);have HW1:Hid (W1.heap[wr.heap.size]?=some (.cells #[.int .i64 fr,.int .i64 lo,.slice b ids.length c] 81 (0,0))):=by rw [hW1];exact heap_alloc_new _ _
 exact Ka78):P:=h
theorem Sa287.Ka78(h:P:=by
 open Sa62 in exact Ya15):P:=h
theorem Sa288.Ka78(h:P:=by
 have hbw:Below wr.heap.size wr W1:=by rw [hW1];exact below_one wr _
 have HBX1:=hide (HBX.trans (hbw.mono HBX.size));have HI1:=hide (GR.At.below HI hbw);have p1:=(hbw.cell (p:=⟨g2,off2+k,none⟩) hgw2).trans p0;have HBL1:=hide (HBL.trans (hbw.mono HBL.size));clear hW1 hbw q0 q1 q2 p0 HI;obtain⟨d0,d1,d2⟩:=three HW1;have m0:=cell_grown' d0;have m1:=cell_grown' d1;have m2:=cell_grown' d2;have m3:=cell_grown' p1;by_cases h1:fr=y
 case' neg=>
  have hb1:(fr != y)=true:=by simp[h1]
  have HP:=hide (show TT=false by rw [unhide HD,decide_eq_false (unhide HX1 h1)];rfl)
  clear h1 HST HX1 HX2
  refine wp_region_quiet_below (by kernel_rfl) (by kernel_rfl) ?_
  repeat (first|go_big_quiet_step (fail)|quiet_step (fail))
  refine wpQuiet_nil ?_
  intro _ hw'
  obtain⟨⟨dq,osq⟩,hw''⟩:=hw'
  subst hw''
  go_wp2_with fail
  go_ret
  exact⟨ret_bool HP.symm,HBL1.trans ((below_regrown _ dq osq).mono HBL1.size)⟩
 have hb1:(fr != y)=false:=by simp[h1]
 cases h2:snB ⟨fr,lo,ids⟩
 case' false=>
  have HP:=hide (show TT=false by rw [unhide HD,unhide HX2 h2];simp)
  have cS:=rSeen ⟨fr,lo,ids⟩ b c false W1 hids HI1 h2
  clear h1 HST HX1 HX2
  refine wp_region_quiet_below (by kernel_rfl) (by kernel_rfl) ?_
  repeat (first|go_big_quiet_step ((first|(go_at_call 155;exact cS _ _)))|quiet_step ((first|(go_at_call 155;exact cS _ _))))
  refine wpQuiet_nil ?_
  intro _ hw'
  obtain⟨⟨dq,osq⟩,hw''⟩:=hw'
  subst hw''
  go_wp2_with fail
  go_ret
  exact⟨ret_bool HP.symm,HBL1.trans ((below_regrown _ dq osq).mono HBL1.size)⟩
 have HG:=hide (HST h1 h2);have cS:=rSeen ⟨fr,lo,ids⟩ b c true W1 hids HI1 h2;clear h1 HST HX1 HX2;refine wp_region_quiet_below (by kernel_rfl) (by kernel_rfl) ?_;repeat (first|go_big_quiet_step ((first|(go_at_call 155;exact cS _ _)))|quiet_step ((first|(go_at_call 155;exact cS _ _))))
 refine wpQuiet_nil ?_;intro _ hw';obtain⟨⟨dq,osq⟩,hw''⟩:=hw';subst hw'';go_wp2_with fail;go_roundw
 case rel=>exact⟨k+1,by omega,by go_num,HG.1,HG.2,HBX1.trans ((below_regrown _ dq osq).mono HBX1.size)⟩
 case measure=>simp[intOf];omega):P:=h
theorem Ya79(h:P:=by
 obtain⟨k,y,hk,rfl,rfl,hy,hall,hblk,hbel⟩:=hrel;have HALL:=hide hall;have HY:=hide hy;have HBL:=hide hbel;have HBK:=hide hblk;exact Ka79):P:=h
theorem Sa289.Ka79(h:P:=by
 have hy0:0≤y:=by rw [hy];exact HLB k hall
 clear hall hy hblk hbel;by_cases hlt:k < out.length
 case' neg=>
  have hke:k=out.length:=by omega
  subst hke
  have hnlt:decide ((out.length:Int) < (out.length:Int))=false:=by simp
  have HF:Hid (TT=true):=by
   exact Za29
  go_wp2_with fail
  go_ret
  exact⟨ret_bool HF.symm,HBL⟩
 obtain⟨g,off,e0,hgw,q0,q1,q2,q3⟩:=SentAt.four (HA.below HBL).o k hlt;(try dsimp only at e0 q0 q1 q2 q3)
 subst e0;have HBAD:Hid (chk KB RR (out.take (k+1))=false→TT=false):=fun h=>HOK.trans (HCB _ h)
 have HNX:Hid (chk KB RR (out.take (k+1))=(KB out[k]&&decide (y < (out[k]).i))):=by
  exact Za101
 have HLN:=hide (HLS k hlt);have HKX:=hide (HKB out[k]);clear HCL HLS HCB HKB HLB;generalize out[k]=sk at *;generalize KB sk=OB at *;obtain⟨si,st,sx,sn⟩:=sk;dsimp only at q0 q1 q2 q3 HNX HLN HKX;obtain⟨bb,hbb⟩:∃bb,(!(decide (y < si)&&decide (si < next)&&NN st&&keyOk sx.data.toList&&smB sn))=bb:=⟨_,rfl⟩;have HBB:=hide hbb
 have HVB:Hid (chk KB RR (out.take (k+1))= !bb):=by
  rw [unhide HNX,←unhide HBB,unhide HKX,Bool.not_not]
  have e1:(decide (1≤si∧si≤next - 1)&&decide (y < si))=(decide (y < si)&&decide (si < next)):=by
   rw [Bool.eq_iff_iff];exact Za99
  rw [←e1];generalize decide (1≤si∧si≤next - 1)=z1;generalize decide (y < si)=z2;generalize NN st=z3;generalize keyOk sx.data.toList=z4;generalize smB sn=z5;cases z1<;>cases z2<;>cases z3<;>cases z4<;>cases z5<;>exact hide rfl
 clear hbb HNX HKX;go_upto_region 7 with fail;refine wp_at (fun W1 hW1=>?_);have HW1:Hid (W1.heap[wr.heap.size]?=some (.cells #[.int .i64 si,.int .i64 st,.string sx,.int .i64 sn] 79 (0,0))):=by rw [hW1];exact heap_alloc_new _ _
 open Sa65 in exact Ya15):P:=h
theorem Sa290.Ka79(h:P:=by
 have hy0:old≤y:=by rw [hy];exact HLB k hall
 clear hall hy hblk hbel;by_cases hlt:k < reqs.length
 case' neg=>
  have hke:k=reqs.length:=by omega
  subst hke
  have hnlt:decide ((reqs.length:Int) < (reqs.length:Int))=false:=by simp
  have HF:Hid (TT=true):=by
   exact Za29
  go_wp2_with fail
  go_ret
  exact⟨ret_bool HF.symm,HBL⟩
 obtain⟨g,off,e0,hgw,q0,q1,q2,q3⟩:=ReqAt.four (HA.below HBL).r k hlt;(try dsimp only at e0 q0 q1 q2 q3)
 subst e0;have HBAD:Hid (chk KB RR (reqs.take (k+1))=false→TT=false):=fun h=>HOK.trans (HCB _ h)
 have HNX:Hid (chk KB RR (reqs.take (k+1))=(KB reqs[k]&&decide (y < (reqs[k]).no))):=by
  exact Za101
 have HLN:=hide (HLS k hlt);have HKX:=hide (HKB reqs[k]);clear HCL HLS HCB HKB HLB;generalize reqs[k]=sk at *;generalize KB sk=OB at *;obtain⟨si,sx,sn,st⟩:=sk;dsimp only at q0 q1 q2 q3 HNX HLN HKX;obtain⟨bb,hbb⟩:∃bb,(!(decide (y < si)&&amB si&&keyOk sx.data.toList&&smB sn&&decide (0≤st)&&decide (st≤2)))=bb:=⟨_,rfl⟩;have HBB:=hide hbb
 have HVB:Hid (chk KB RR (reqs.take (k+1))= !bb):=by
  rw [unhide HNX,←unhide HBB,unhide HKX,Bool.not_not]
  have e1:(decide (old+1≤si∧si≤1000000000)&&decide (y < si))=(decide (y < si)&&amB si):=by
   rw [Bool.eq_iff_iff];unfold amB;exact Za99
  have e2:decide (0≤st∧st≤2)=(decide (0≤st)&&decide (st≤2)):=by
   rw [Bool.eq_iff_iff];simp only[Bool.and_eq_true,decide_eq_true_eq]
  rw [←e1,e2];generalize decide (old+1≤si∧si≤1000000000)=z1;generalize decide (y < si)=z2;generalize decide (0≤st)=z3;generalize decide (st≤2)=z6;generalize keyOk sx.data.toList=z4;generalize smB sn=z5;cases z1<;>cases z2<;>cases z3<;>cases z4<;>cases z5<;>cases z6<;>exact hide rfl
 clear hbb HNX HKX;go_upto_region 7 with fail;refine wp_at (fun W1 hW1=>?_);have HW1:Hid (W1.heap[wr.heap.size]?=some (.cells #[.int .i64 si,.string sx,.int .i64 sn,.int .i64 st] 49 (0,0))):=by rw [hW1];exact heap_alloc_new _ _
 open Sa64 in exact Ya15):P:=h
theorem Ya80(h:P:=by
 have HID:Hid ((takeN n o.m).1.id=n.id):=by
  exact Za120
 have HSY:=hide (fun W A G c n' (hW:WK w0 W wb n' A G c v L)=>wkSay w0 W wb n' A G c v L ⟨2,n'.id,o.m.F,o.m.I,0,ByteArray.empty,0⟩ (by simp) (by omega) hW);rw [unhide HR];exact Ka80):P:=h
theorem Sa291.Ka80(h:P:=by
 unfold ackM;rw [←unhide HID];open Sa38 in exact Ya11):P:=h
theorem Sa292.Ka80(h:P:=by
 open Sa39 in exact Ya11):P:=h
theorem Ya81(h:P:=by
 obtain⟨b1,b2,b3,b4,b5,b6,b7,b8⟩:=node_bds hz;have HS:Hid (sP n=1+n.kids.length∧sO n=sP n+4*n.pu.length∧sS n=sO n+4*n.out.length∧sR n=eSeen (sS n) n.seen∧eNode n=sR n+4*n.reqs.length):=⟨rfl,rfl,rfl,rfl,rfl⟩;exact Ka81):P:=h
theorem Sa293.Ka81(h:P:=by
 rw [show mNode n=⟨n.id,n.par,mks mkInt 1 1 n.kids n.kids.length,n.next,mks mkPurse 4 (sP n) n.pu n.pu.length,mks mkSent 4 (sO n) n.out n.out.length,mSeen (sS n) n.seen,n.old,mks mkReq 4 (sR n) n.reqs n.reqs.length⟩ from rfl] at ha;have HA:=hide ha;have HZ:=hide hz;have HB0:=hide (heap_alloc_new w (.cells (ndc n A) 30));have HL0:=hide (below_one w (.cells (ndc n A) 30));clear ha hz;generalize eNode n=EN at *;generalize sP n=s1 at *;generalize sO n=s2 at *;generalize sS n=s3 at *;generalize sR n=s4 at *;have HKK:=hide (fun z W (hb:Below w.heap.size w W) (hz:z=((1:Nat):Int))=>heldIntZ A.k G.k A.ck n.kids.length 1 z n.kids W hz rfl (by omega) (by omega) HZ.k (HA.below hb).k);have HPP:=hide (fun z W (hb:Below w.heap.size w W) (hz:z=(s1:Int))=>heldPurseZ A.p G.p A.cp n.pu.length s1 z n.pu W hz rfl b1 (by omega) HZ.p (HA.below hb).p);have HOO:=hide (fun z W (hb:Below w.heap.size w W) (hz:z=(s2:Int))=>heldSentZ A.o G.o A.co n.out.length s2 z n.out W hz rfl b3 (by omega) HZ.o (HA.below hb).o);have HSS:=hide (fun z W (hb:Below w.heap.size w W) (hz:z=(s3:Int))=>heldSeenZ A.s G.s A.cs n.seen.length s3 z G.i n.seen W hz rfl b5 b6 HZ.s HZ.sk (HA.below hb).s);have HRR:=hide (fun z W (hb:Below w.heap.size w W) (hz:z=(s4:Int))=>heldReqZ A.r G.r A.cr n.reqs.length s4 z n.reqs W hz rfl b7 (by omega) HZ.r (HA.below hb).r);have hzk:=HZ.k;have hzp:=HZ.p;have hzo:=HZ.o;have hzs:=HZ.s;have hzr:=HZ.r;clear HA HZ;open Sa118 in exact Ya26):P:=h
theorem Sa294.Ka81(h:P:=by
 have HMN:=hide (show mNode n=⟨n.id,n.par,mks mkInt 1 1 n.kids n.kids.length,n.next,mks mkPurse 4 (sP n) n.pu n.pu.length,mks mkSent 4 (sO n) n.out n.out.length,mSeen (sS n) n.seen,n.old,mks mkReq 4 (sR n) n.reqs n.reqs.length⟩ from rfl);unfold Blks.all at hnd;simp only[List.nodup_append,List.mem_append] at hnd;obtain⟨_,⟨_,⟨_,⟨n4,⟨n5,n6,d6⟩,d5⟩,d4⟩,d3⟩,d2⟩:=hnd;have HK0:=hide (ha.k.below hb0);have HP0:=hide (ha.p.below hb0);have HO0:=hide (ha.o.below hb0);have HSE0:=hide (ha.s.below hb0);have HR0:=hide (ha.r.below hb0);have HB0:=hide (heap_alloc_new w (.cells (ndc n A) 30));have HL:=hide (And.intro (W_lt ha.k) (And.intro (W_lt ha.p) (And.intro (W_lt ha.o) (And.intro (SeenW_lt ha.s) (W_lt ha.r)))));have HKW0:Hid (KeepsL (G.all n) w (w.alloc (.cells (ndc n A) 30))):=KeepsL.of_below hb0;have HALL:=hide (fun x=>(@Blks.mem_all G n x).2);have HZ:=hide hz;have HD2:=hide d2;have HD3:=hide d3;have HD4:=hide d4;have HD5:=hide d5;have HD6:=hide d6;have HN45:Hid ((fp G.s n.seen++fpI G.i n.seen).Nodup):=List.nodup_append.2 ⟨n4,n5,fun a ha b hb=>d5 a ha b (.inl hb)⟩;clear ha hz hb0 n4 n5 n6 d2 d3 d4 d5 d6;generalize G.all n=GA at *;generalize mNode n=MN at *;generalize eNode n=EN at *;generalize sP n=s1 at *;generalize sO n=s2 at *;generalize sS n=s3 at *;generalize sR n=s4 at *;open Sa119 in exact Ya26):P:=h
theorem Ya82(h:P:=by
 clear hW;obtain⟨x0,x1,x2,x3,x4,x5,x6,x7,x8,x9,x10⟩:=elevenC hX;obtain⟨y0,y1,y2,y3,y4,y5,y6,y7,y8,y9,y10⟩:=elevenC hY;clear hX hY;exact Ka82):P:=h
theorem Sa295.Ka82(h:P:=by
 exact Za1):P:=h
theorem Sa296.Ka82(h:P:=by
 exact Za7):P:=h
theorem Sa297.Ka82(h:P:=by
 by_cases hno:no=0
 case' neg=>
  have hno':¬(0:Int)=no:=fun e=>hno e.symm
  go_wp2_with fail
  go_ret
  exact⟨ret_bool (by rw [unhide HP];simp[zmB,hno]),HBW⟩
 subst hno;exact Ka56):P:=h
theorem Ya83(h:P:=by
 unfold GivesD;have HCP:=hide (fun W (h:Below w.heap.size w W)=>implCopyNode n A W hz (ha.below h));have HOK:=hide (fun W (h:Below w.heap.size w W)=>implNodeOk n A W (hz.mono (by omega)) (ha.below h));rw [hok] at HOK;exact Ka83):P:=h
theorem Sa298.Ka83(h:P:=by
 have HE:=hide he;have HDO:=hide (fun W w0 wb A G c v (hW:WK w0 W wb n A G c v []) (he:Errs w0 E)=>wkDo w0 W wb n A G c v [] o E hz hok hk hmk (by simp) hW he);clear hz hok ha hk hmk he;generalize wdoN n o=RR at *;open Sa31 in exact Ya8):P:=h
theorem Sa299.Ka83(h:P:=by
 clear hz hok ha;open Sa32 in exact Ya8):P:=h
theorem Ya84(h:P:=by
 have HB4:=hide (obj_step HB3 hb1);have HL4:=hide (HL3.trans (hb1.mono HL3.size));clear hb1 c0 c1 c2 c3 c4 c5 c6 c7 c8;obtain⟨c0,c1,c2,c3,c4,c5,c6,c7,c8⟩:=nine HB4;exact Ka84):P:=h
theorem Sa300.Ka84(h:P:=by
 rcases hcase with rfl|⟨p0,p1,p2,p3⟩
 case' inl=>
  go_wp2_with fail
  go_ret
  exact⟨-1,rfl,HL4,.inl rfl⟩
 have K4:=hide (And.intro p2 p3);have q6:decide (z4 < 0)=false:=decide_eq_false (by omega);clear p2 p3;go_wp2_with fail;go_ret;exact⟨z4,rfl,HL4,.inr ⟨p0,p1,HQ (by omega) K1 K2 K3 K4⟩⟩):P:=h
theorem Sa301.Ka84(h:P:=by
 rw [←unhide HQ4];have hn4:decide ((s4:Int) < 0)=false:=decide_eq_false (by omega);go_wp2_with fail;refine(HRR _ _ HL4 (by omega)).mono ?_;open Sa328 in exact Ya96):P:=h
theorem Sa302.Ka84(h:P:=by
 cases h5:TD
 case' false=>
  have HP:=hide (show TT=false by rw [unhide HD];simp[h5])
  clear h5 HD
  go_wp2_with fail
  go_ret
  exact⟨ret_bool HP.symm,HL4⟩
 go_wp2_with fail;refine(HRE _ HL4).mono ?_;open Sa327 in exact Ya96):P:=h
theorem Ya85(h:P:=by
 clear HR;clear hk hn;go_enter Tryz.func104,Tryz.ntmps104
 go_wp2_with (first|(go_at_call_of 153 k;refine(HK _).mono ?_;rintro e w1 ⟨rfl,rfl⟩)|(go_at_call_of 100 n;refine(HN _).mono ?_;rintro e w1 ⟨rfl,rfl⟩))
 exact Ka85):P:=h
theorem Sa303.Ka85(h:P:=by
 go_region
 go_upto_region 23 with fail;open Sa240 in exact Ya62):P:=h
theorem Sa304.Ka85(h:P:=by
 go_ret;exact⟨ret_bool (by rw [unhide HP];simp),by first|exact below_two w _ _|exact Below.setNew (below_two w _ _) (by omega)⟩):P:=h
theorem Ya86(h:P:=by
 obtain⟨rl,rb⟩:=r;dsimp only at HZ ⊢;refine wpAny_one 21 rfl (by kernel_rfl) (by rfl) ?_;go_simp;refine wpAny_one 22 rfl (by kernel_rfl) (by rfl) ?_;go_simp;refine wpAny_done (by kernel_rfl) ?_;go_simp;exact Ka86):P:=h
theorem Sa305.Ka86(h:P:=by
 cases rb
 ·go_wp2_with fail;go_ret;exact⟨rfl,⟨A',G',c',HZ.wk,HZ.bk,HZ.si.mono (Nat.le_succ k),HZ.cs,HZ.cm⟩,fun j o h1 _ h3=>HKO j o h1 h3⟩
 ·obtain⟨⟨p0,p1,p2,p3,p4,p5,p6⟩,_⟩:=seven_at HP2;obtain⟨⟨d0,d1⟩,_⟩:=two_at HZ.bk;have hsl2:=obj_lt HZ.bk;have hpl2:=obj_lt HP2;have hI1:SetIs z2.drew mb k l:=HZ.si.kept rfl;obtain⟨z3,hrun,hI3,hK3⟩:=hI1.store mI hi0 hi1 (by unfold maxLen;omega);have HR:=hide (HZ.put hI3 (Keeps.trans (b:=z2.drew) (Keeps.of_below (Below.refl _ _).drew) hK3))
  have HK4:Hid (∀j o,j≠wb→j≠mb→w.heap[j]?=some o→z3.heap[j]?=some o):=fun j o h1 h2 h3=>by
   have h4:=unhide HKO j o h1 h3
   rw [hK3.block j (obj_lt h4) h2]
   exact h4
  clear hI1 hI3 hK3 HP2;go_wp2_with fail;go_region
  all_goals
   go_wp2_with fail
   go_ret
   exact⟨rfl,⟨A',G',c',HR⟩,HK4⟩):P:=h
theorem Sa306.Ka86(h:P:=by
 cases rb
 all_goals
  go_wp2_with fail
  go_ret
  exact⟨rfl,A',G',c',HZ⟩):P:=h
theorem Ya87(h:P:=by
 have cO:∀d os,Calls Tryz.prog 151 #[puv ⟨pk,pm,pf,ps⟩] (Sort.grow (redrawn V d) os) fun e w''=>e= .returned (.bool false)∧∃p:Regrown,w''=Sort.grow (redrawn V p.d) p.os:=fun d os=>Calls.regrown_of (HO _)
 exact Ka87):P:=h
theorem Sa307.Ka87(h:P:=by
 open Sa281 in exact Ya76):P:=h
theorem Sa308.Ka87(h:P:=by
 exact Za16):P:=h
theorem Ya88(h:P:=by
 have cO:∀d os,Calls Tryz.prog 151 #[puv ⟨pk,pm,pf,ps⟩] (Sort.grow (redrawn V d) os) fun e w''=>e= .returned (.bool true)∧∃p:Regrown,w''=Sort.grow (redrawn V p.d) p.os:=fun d os=>Calls.regrown_of (HO _)
 exact Ka88):P:=h
theorem Sa309.Ka88(h:P:=by
 exact Ka44):P:=h
theorem Sa310.Ka88(h:P:=by
 open Sa282 in exact Ya76):P:=h
theorem Ya89(h:P:=by
 have hblk:V.heap[w.heap.size]?=some (.cells #[.int .i64 2,.int .i64 F,.int .i64 T,.int .i64 I,.int .i64 L,.string k,.int .i64 N] 32 (0,0)):=by rw [hV,Below.heap_alloc _ _ _ (by simp)];exact heap_alloc_new w _
 exact Ka89):P:=h
theorem Sa311.Ka89(h:P:=by
 open Sa102 in exact Ya25):P:=h
theorem Sa312.Ka89(h:P:=by
 open Sa9 in exact Ya1):P:=h
theorem Ya90(h:P:=by
 have hblk:V.heap[w.heap.size]?=some (.cells #[.int .i64 1,.int .i64 F,.int .i64 T,.int .i64 I,.int .i64 L,.string k,.int .i64 N] 32 (0,0)):=by rw [hV,Below.heap_alloc _ _ _ (by simp)];exact heap_alloc_new w _
 exact Ka90):P:=h
theorem Sa313.Ka90(h:P:=by
 open Sa104 in exact Ya25):P:=h
theorem Sa314.Ka90(h:P:=by
 open Sa103 in exact Ya25):P:=h
theorem Ya91(h:P:=by
 have hblk:V.heap[w.heap.size]?=some (.cells #[.int .i64 0,.int .i64 F,.int .i64 T,.int .i64 I,.int .i64 L,.string k,.int .i64 N] 32 (0,0)):=by rw [hV,Below.heap_alloc _ _ _ (by simp)];exact heap_alloc_new w _
 exact Ka91):P:=h
theorem Sa315.Ka91(h:P:=by
 open Sa105 in exact Ya25):P:=h
theorem Sa316.Ka91(h:P:=by
 open Sa23 in exact Ya5):P:=h
theorem Ya92(h:P:=by
 rw [Mth.take_all s k hlt] at HA;have HF:Hid (Mth.keyOk s.data.toList=decide (1≤s.data.toList.length∧s.data.toList.length≤10)):=Mth.keyOk_all _ HA;rw [size_toList s] at HF;exact Ka92):P:=h
theorem Sa317.Ka92(h:P:=by
 by_cases hin:(1:Int)≤(s.size:Int)∧(s.size:Int)≤10
 ·obtain⟨hi1,hi2⟩:=hin;exact Za33
 ·exact Za33):P:=h
theorem Sa318.Ka92(h:P:=by
 go_wp2
 go_ret;exact⟨ret_bool (by rw [unhide HF];simp;omega),rfl⟩):P:=h
theorem Ya93(h:P:=by
 generalize l[k]=pu at *;have HOK:=hide (fun w1=>implOwnKey pu w1 hkk);clear hkk;obtain⟨pk,pm,pf,ps⟩:=pu;exact Ka93):P:=h
theorem Sa319.Ka93(h:P:=by
 dsimp only at c0 c1 c2 c3 hf;go_wp2_with fail;refine(HOK _).mono ?_;rintro e w1 ⟨rfl,hb1⟩;have hb2:=HBL.trans ((Below.mono (Fo.one_block hb1).2.2 HBL.size));have hB:w1.heap[w.heap.size]?=some (.cells #[.string ⟨#[]⟩,.int .i64 0,.int .i64 0,.int .i64 0] 141 (0,0)):=by rw [(Fo.one_block hb1).2.2.block _ hlt0];exact HBK
 have HB:=hide hB;have HB2:=hide hb2;obtain⟨⟨r0,r1,r2,r3⟩,s0,s1,s2,s3⟩:=four_at hB;clear hB hb1 hb2;go_wp2_with fail;clear r0 r1 r2 r3;refine Fo.bodyPost_at (fun W' hW'=>?_);obtain⟨⟨r0,r1,r2,r3⟩,_⟩:=four_at (show W'.heap[w.heap.size]?=some (.cells #[.string pk,.int .i64 pm,.int .i64 pf,.int .i64 ps] 141 (0,0)) by rw [hW'];exact Fo.four_set HB);have hbb:Below w.heap.size w W':=by rw [hW'];exact Fo.four_below HB2 (Nat.le_refl _)
 refine bodyPost_ret (v:= .agg #[.string pk,.int .i64 pm,.int .i64 pf,.int .i64 ps]) (by simp[results,Tryz.results190,go_sem,r0,r1,r2,r3]) rfl ⟨by rw [unhide HX],hbb⟩):P:=h
theorem Sa320.Ka93(h:P:=by
 dsimp only at q0 q1 q2 q3;go_wp2_with fail;refine(HOK _).mono ?_;rintro e w5 ⟨rfl,hb5⟩;obtain⟨_,_,hb6⟩:=Fo.one_block hb5;have HB5:=hide (PuW.below HB hb6);have HBL5:=hide (HBL.trans (hb6.mono HBL.size));clear hb5 hb6 q0 q1 q2 q3;obtain⟨_,hgw5,⟨s0,s1,s2,s3⟩,f0,f1,f2,f3⟩:=PuW.four HB5 k hlt;go_wp2_with fail;go_roundw
 case rel=>
  have h:=PuW.set HB5 k ⟨pk,pm,pf,ps⟩ hlt;rw [unhide HSE] at h;exact⟨k+1,by omega,by go_num,h,GR.setW_below (o:=k*4) hg (encP ⟨pk,pm,pf,ps⟩) HBL5⟩
 case measure=>simp[intOf];omega):P:=h
theorem Ya94(h:P:=by
 generalize l[k]=pu at *;obtain⟨pk,pm,pf,ps⟩:=pu;dsimp only at c0 c1 c2 c3 hf;go_wp2_with fail;exact Ka94):P:=h
theorem Sa321.Ka94(h:P:=by
 refine bodyPost_ret (v:= .agg #[.string pk,.int .i64 pm,.int .i64 pf,.int .i64 ps]) (by simp[results,Tryz.results136,go_sem]) rfl ⟨by rw [unhide HX],?_⟩;exact(Below.refl _ _).alloc (Nat.le_refl _) _):P:=h
theorem Sa322.Ka94(h:P:=by
 go_roundw
 case rel=>exact⟨k+1,by omega,by go_num,HX,by first|rfl|trivial⟩
 case measure=>simp[intOf];omega):P:=h
theorem Sa323.Ka94(h:P:=by
 go_roundw
 case rel=>exact⟨k+1,by omega,by go_num,HX,by first|exact HBL.alloc HBL.size _|exact HBL,by first|(rw [Below.heap_alloc _ _ _ hlt0];exact HBK)|exact HBK⟩
 case measure=>simp[intOf];omega):P:=h
theorem Ya95(h:P:=by
 have e1:(m:Int)+1+1=m+2:=by omega
 have e3:(m:Int)+2+1=m+3:=by omega
 (try simp only[e1,e3] at HB1 ⊢)
 exact Ka95):P:=h
theorem Sa324.Ka95(h:P:=by
 have h1:=GR.C.set h0 (k*4) (.int .i64 (mkReq m).no);have hB:=GR.C.below h1 HB1;have h2:=GR.C.set hB (k*4+1) (.string (mkReq m).k);have h3:=GR.C.set h2 (k*4+2) (.int .i64 (mkReq m).n);have h4:=GR.C.set h3 (k*4+3) (.int .i64 (mkReq m).s);have hf:=GR.flat_set encRq 4 encRq_length (mks mkReq 4 s l k) k (mkReq m) (by rw [unhide HML];exact hlt);have h5:=GR.C.toW (enc:=encRq) (l:=(mks mkReq 4 s l k).set k (mkReq m)) encRq_length (by omega) (by rw [←hf];exact h4);have hmk:mkReq m=mkReq (s+4*k):=by rw [unhide HM]
 rw [hmk,mks_set mkReq 4 s l k hlt,←hmk] at h5;refine⟨k+1,m+4,by omega,by go_num,by go_num,by have:=unhide HM;omega,h5,?_⟩;exact(((((HK.trans (fp_keeps (KeepsL.set _) hpos)).trans (KeepsL.of_below HB1)).trans (fp_keeps (KeepsL.set _) hpos)).trans (fp_keeps (KeepsL.set _) hpos)).trans (fp_keeps (KeepsL.set _) hpos))):P:=h
theorem Sa325.Ka95(h:P:=by
 have h1:=GR.C.set h0 (k*4) (.int .i64 (mkSent m).i);have h2:=GR.C.set h1 (k*4+1) (.int .i64 (mkSent m).t);have hB:=GR.C.below h2 HB1;have h3:=GR.C.set hB (k*4+2) (.string (mkSent m).k);have h4:=GR.C.set h3 (k*4+3) (.int .i64 (mkSent m).n);have hf:=GR.flat_set encSnt 4 encSnt_length (mks mkSent 4 s l k) k (mkSent m) (by rw [unhide HML];exact hlt);have h5:=GR.C.toW (enc:=encSnt) (l:=(mks mkSent 4 s l k).set k (mkSent m)) encSnt_length (by omega) (by rw [←hf];exact h4);have hmk:mkSent m=mkSent (s+4*k):=by rw [unhide HM]
 rw [hmk,mks_set mkSent 4 s l k hlt,←hmk] at h5;refine⟨k+1,m+4,by omega,by go_num,by go_num,by have:=unhide HM;omega,h5,?_⟩;exact(((((HK.trans (fp_keeps (KeepsL.set _) hpos)).trans (fp_keeps (KeepsL.set _) hpos)).trans (KeepsL.of_below HB1)).trans (fp_keeps (KeepsL.set _) hpos)).trans (fp_keeps (KeepsL.set _) hpos))):P:=h
theorem Sa326.Ka95(h:P:=by
 have hB:=GR.C.below h0 HB1;have h1:=GR.C.set hB (k*4) (.string (mkPurse m).k);have h2:=GR.C.set h1 (k*4+1) (.int .i64 (mkPurse m).m);have h3:=GR.C.set h2 (k*4+2) (.int .i64 (mkPurse m).f);have h4:=GR.C.set h3 (k*4+3) (.int .i64 (mkPurse m).s);have hf:=GR.flat_set encP 4 encP_length (mks mkPurse 4 s l k) k (mkPurse m) (by rw [unhide HML];exact hlt);have h5:=GR.C.toW (enc:=encP) (l:=(mks mkPurse 4 s l k).set k (mkPurse m)) encP_length (by omega) (by rw [←hf];exact h4);have hmk:mkPurse m=mkPurse (s+4*k):=by rw [unhide HM]
 rw [hmk,mks_set mkPurse 4 s l k hlt,←hmk] at h5;refine⟨k+1,m+4,by omega,by go_num,by go_num,by have:=unhide HM;omega,h5,?_⟩;exact(((((HK.trans (KeepsL.of_below HB1)).trans (fp_keeps (KeepsL.set _) hpos)).trans (fp_keeps (KeepsL.set _) hpos)).trans (fp_keeps (KeepsL.set _) hpos)).trans (fp_keeps (KeepsL.set _) hpos))):P:=h
theorem Ya96(h:P:=by
 rintro e w5 ⟨rfl,hb1⟩;have HB5:=hide (obj_step HB4 hb1);have HL5:=hide (HL4.trans (hb1.mono HL4.size));clear hb1 c0 c1 c2 c3 c4 c5 c6 c7 c8;obtain⟨c0,c1,c2,c3,c4,c5,c6,c7,c8⟩:=nine HB5;exact Ka96):P:=h
theorem Sa327.Ka96(h:P:=by
 have HP:=hide (show TT=RQ by rw [unhide HD];simp[h1,h2,h3,h4,h5]);clear h1 h2 h3 h4 h5 HD;go_wp2_with fail;go_ret;exact⟨ret_bool HP.symm,HL5⟩):P:=h
theorem Sa328.Ka96(h:P:=by
 go_wp2_with fail;go_ret;exact⟨ret_int (by omega),HL5⟩):P:=h
theorem Ya97(h:P:=by
 have z2:=cell_regrown p2;have z3:=cell_regrown p3;clear c0 c1 c2 c3 c4 c5 c6 c7 c8 c9 p0 p1 p2 p3 p4 p5 p6 p7 p8 p9 p10;exact Ka97):P:=h
theorem Sa329.Ka97(h:P:=by
 open Sa274 in exact Ya74):P:=h
theorem Sa330.Ka97(h:P:=by
 refine wp_region_mixE 16 (by kernel_rfl) ?_;show wpMixE _ _ _ _ _ 17 (Array.replicate 17 false) _ _
 refine tk [0,1,2,3,4,5,6,7,8,9,10,11,12,13,14,15] ?_;iterate 16 (refine tkE (fun K hK=>?_);go_simp;refine hK _ ?_;clear hK K)
 refine tkN ?_;clear y0 y1 z2 z3;refine wpMixE_leave (by kernel_rfl) (fun x hx=>?_);have HSX:=hide (HSY x c v (HW1.step hx));clear hx;refine wpAny_one 16 rfl (by kernel_rfl) (by rfl) ?_;go_simp;refine HSX.mono ?_;rintro e y ⟨rfl,c',v',hY⟩;have HY:=hide hY;clear hY HSX;refine wpAny_done (by kernel_rfl) ?_;go_simp;go_wp2_with fail;go_ret;exact⟨rfl,c',v',HY⟩):P:=h
theorem Sa331.Ka97(h:P:=by
 refine wp_region_mixE 17 (by kernel_rfl) ?_;show wpMixE _ _ _ _ _ 20 (Array.replicate 20 false) _ _
 refine tk [0,1,2,3,4,5,6,7,8,9,10,11,12,13,14,15,16] ?_;iterate 17 (refine tkE (fun K hK=>?_);go_simp;refine hK _ ?_;clear hK K)
 refine tkN ?_;clear y1 z2 z3;refine wpMixE_leave (by kernel_rfl) (fun x hx=>?_);have HSX:=hide (HPY x c v (HW1.step hx));clear hx;refine wpAny_one 17 rfl (by kernel_rfl) (by rfl) ?_;go_simp;refine HSX.mono ?_;rintro e y ⟨rfl,A',G',c',v',hY⟩;have HY:=hide hY;clear hY HSX;refine wpAny_one 18 rfl (by kernel_rfl) (by rfl) ?_;go_simp;refine wpAny_one 19 rfl (by kernel_rfl) (by rfl) ?_;go_simp;refine wpAny_done (by kernel_rfl) ?_;go_simp;cases gb
 all_goals
  go_wp2_with fail
  go_ret
  exact⟨rfl,A',G',c',v',HY⟩):P:=h
theorem Ya98(h:P:=by
 have c4:V.cell? ⟨g,off+j*4,none⟩=some (.string q):=by rw [hV,World.cell?_alloc_lt _ _ _ hgw];exact d0
 have hgq:g < V.heap.size:=by rw [hV];simp;omega
 clear hblk hV c0 c1 c2 c3 d0;exact Ka98):P:=h
theorem Sa332.Ka98(h:P:=by
 open Sa309 in exact Ya88):P:=h
theorem Sa333.Ka98(h:P:=by
 open Sa308 in exact Ya87):P:=h
theorem Ya99(h:P:=by
 go_wp2_with fail;refine(HCM _).mono ?_;rintro e w1 ⟨rfl,hb1⟩;have HB1:=hide (HB.trans (hb1.mono HB.size));exact Ka99):P:=h
theorem Sa334.Ka99(h:P:=by
 have HE:Hid (RF=(ln - no == 0)):=by
  show RF=_
  rw [unhide HFP,Bool.eq_iff_iff,decide_eq_true_iff,beq_iff_eq];omega
 clear hb1 q0 q1 q2 q3 HFP;go_wp2_with fail;go_ret2
 exact⟨by rw [unhide HE];rfl,HB1⟩):P:=h
theorem Sa335.Ka99(h:P:=by
 clear hb1 q0 q1 q2 q3;by_cases hc:ln - no < 0
 ·go_wp2_with fail;go_roundw
  case rel=>exact⟨m+1,q,by
   rcases Nat.lt_or_ge R (m+1) with h9|h9
   ·have:=unhide HHM (by omega);omega
   ·exact h9,h3,h4,by go_num,rfl,HB1⟩
  case measure=>simp[intOf];omega
 ·go_wp2_with fail;go_roundw
  case rel=>exact⟨p,m,h2,by
   rcases Nat.lt_or_ge m R with h9|h9
   ·have:=unhide HLM h9;omega
   ·exact h9,by omega,rfl,rfl,HB1⟩
  case measure=>simp[intOf];omega):P:=h
theorem Ya100(h:P:=by
 go_enter Tryz.func263,Tryz.ntmps263
 go_wp2_with fail;refine(HO _).mono ?_;rintro e w1 ⟨rfl,hb1⟩;obtain⟨hA,hC,hbel⟩:=three_blocks hb1;have HC:=hide hC;have HBL:=hide hbel;exact Ka100):P:=h
theorem Sa336.Ka100(h:P:=by
 obtain⟨⟨p0,p1,p2,p3⟩,_⟩:=four_at hA;obtain⟨⟨r0,r1,r2,r3⟩,s0,s1,s2,s3⟩:=four_at hC;clear hb1 hA hC hbel;go_wp2_with fail;clear r0 r1 r2 r3;refine Fo.bodyPost_at (fun W' hW'=>?_);obtain⟨⟨r0,r1,r2,r3⟩,_⟩:=four_at (show W'.heap[w.heap.size+1+1]?=some (.cells #[.string pk,.int .i64 (pm+dm*n),.int .i64 (pf+df*n),.int .i64 (ps+ds*n)] 141 (0,0)) by rw [hW'];exact Fo.four_set HC);have hbb:Below w.heap.size w W':=by rw [hW'];exact Fo.four_below HBL (by omega)
 exact bodyPost_ret (v:= .tuple #[.agg #[.string pk,.int .i64 (pm+dm*n),.int .i64 (pf+df*n),.int .i64 (ps+ds*n)],.nilIface]) (by simp[results,Tryz.results263,go_sem,r0,r1,r2,r3]) rfl ⟨rfl,hbb⟩):P:=h
theorem Sa337.Ka100(h:P:=by
 have ve:=(HE.below hbel).var 4 (by omega);have hsz:=(show w.heap.size+1+1 < w1.heap.size from Fo.lt_of_blk hC);have hve:4 < w.heap.size:=World.block_lt_of_cell? _ _ (HE.var 4 (by omega));obtain⟨⟨r0,r1,r2,r3⟩,s0,s1,s2,s3⟩:=four_at hC;clear hb1 hA hC hbel;go_wp2_with fail;go_region
 all_goals
  go_wp2_with fail
  refine Fo.bodyPost_at (fun W' hW'=>?_)
  obtain⟨⟨t0,t1,t2,t3⟩,_⟩:=four_at (show W'.heap[w.heap.size+1+1]?=some (.cells #[.string ⟨#[]⟩,.int .i64 0,.int .i64 0,.int .i64 0] 141 (0,0)) by rw [hW'];exact Fo.four_set (w:=w1.drew) HC)
  have hbb:Below w.heap.size w W':=by rw [hW'];exact Fo.four_below (w:=w1.drew) (HBL.trans ⟨rfl,rfl,rfl,Nat.le_refl _,fun _ _=>rfl⟩) (by omega)
  exact bodyPost_ret (v:= .tuple #[.agg #[.string ⟨#[]⟩,.int .i64 0,.int .i64 0,.int .i64 0],errV (E 4)]) (by simp[results,Tryz.results263,go_sem,t0,t1,t2,t3]) rfl ⟨rfl,hbb⟩):P:=h
theorem Ya101(h:P:=by
 have HB1:=hide (obj_step HB0 hb1);have HL1:=hide (HL0.trans (hb1.mono HL0.size));exact Ka101):P:=h
theorem Sa338.Ka101(h:P:=by
 clear hb1 c0 c1 c2 c3 c4 c5 c6 c7 c8;obtain⟨c0,c1,c2,c3,c4,c5,c6,c7,c8⟩:=nine HB1;exact Ka59):P:=h
theorem Sa339.Ka101(h:P:=by
 clear hb1 c0 c1 c2 c3 c4 c5 c6 c7 c8 HPL;obtain⟨c0,c1,c2,c3,c4,c5,c6,c7,c8⟩:=nine HB1;cases h1:PL
 case' false=>
  have HV:=hide (show bb=true by rw [←unhide HBB];simp[h1])
  clear HBB h1
  go_wp2_with fail
  go_meet
  case rel=>exact⟨by rw [unhide HV],HB1,HL1⟩
 go_wp2_with fail;refine(HPU _ HL1).mono ?_;rintro e w2 ⟨rfl,hb1⟩;have HB2:=hide (obj_step HB1 hb1);have HL2:=hide (HL1.trans (hb1.mono HL1.size));clear hb1 c0 c1 c2 c3 c4 c5 c6 c7 c8 HPU;obtain⟨c0,c1,c2,c3,c4,c5,c6,c7,c8⟩:=nine HB2;cases h2:PS
 case' false=>
  have HV:=hide (show bb=true by rw [←unhide HBB];simp[h2])
  clear HBB h2
  go_wp2_with fail
  go_meet
  case rel=>exact⟨by rw [unhide HV],HB2,HL2⟩
 go_wp2_with fail;refine(HTO _ HL2).mono ?_;rintro e w3 ⟨rfl,hb1⟩;have HB3:=hide (obj_step HB2 hb1);have HL3:=hide (HL2.trans (hb1.mono HL2.size));clear hb1 c0 c1 c2 c3 c4 c5 c6 c7 c8 HTO;obtain⟨c0,c1,c2,c3,c4,c5,c6,c7,c8⟩:=nine HB3;cases h3:TD
 case' false=>
  have HV:=hide (show bb=true by rw [←unhide HBB];simp[h3])
  clear HBB h3
  go_wp2_with fail
  go_meet
  case rel=>exact⟨by rw [unhide HV],HB3,HL3⟩
 cases h4:smB next
 case' false=>
  have HV:=hide (show bb=true by rw [←unhide HBB];simp[h4])
  clear HBB h1 h2 h3
  go_wp2_with (go_at_call 46;refine(l04Some _ _ _ h4).mono ?_;rintro e w9 ⟨rfl,rfl⟩)
  go_meet
  case rel=>exact⟨by rw [unhide HV],HB3,HL3⟩
 by_cases h5:out.length≤40
 case' neg=>
  have hq:decide ((40:Int) < out.length)=true:=decide_eq_true (by omega)
  have HV:=hide (show bb=true by rw [←unhide HBB];simp[h5])
  clear HBB h1 h2 h3
  go_wp2_with (go_at_call 46;refine(l04Some _ _ _ h4).mono ?_;rintro e w9 ⟨rfl,rfl⟩)
  go_meet
  case rel=>exact⟨by rw [unhide HV],HB3,HL3⟩
 have hq:decide ((40:Int) < out.length)=false:=decide_eq_false (by omega);cases h6:amB old
 case' false=>
  have HAM:=hide (fun w1=>l01AmB old false w1 h6)
  have HV:=hide (show bb=true by rw [←unhide HBB];simp[h6])
  clear HBB h1 h2 h3
  go_wp2_with (first|(go_at_call 46;refine(l04Some _ _ _ h4).mono ?_;rintro e w9 ⟨rfl,rfl⟩)|(go_at_call 47;refine(HAM _).mono ?_;rintro e w9 ⟨rfl,rfl⟩))
  go_meet
  case rel=>exact⟨by rw [unhide HV],HB3,HL3⟩
 have HAM:=hide (fun w1=>l01AmB old true w1 h6);by_cases h7:reqs.length≤30
 case' neg=>
  have hq2:decide ((30:Int) < reqs.length)=true:=decide_eq_true (by omega)
  have HV:=hide (show bb=true by rw [←unhide HBB];simp[h7])
  clear HBB h1 h2 h3
  go_wp2_with (first|(go_at_call 46;refine(l04Some _ _ _ h4).mono ?_;rintro e w9 ⟨rfl,rfl⟩)|(go_at_call 47;refine(HAM _).mono ?_;rintro e w9 ⟨rfl,rfl⟩))
  go_meet
  case rel=>exact⟨by rw [unhide HV],HB3,HL3⟩
 have hq2:decide ((30:Int) < reqs.length)=false:=decide_eq_false (by omega);have HV:=hide (show bb=false by rw [←unhide HBB];simp[h1,h2,h3,h4,h5,h6,h7]);clear HBB h1 h2 h3;go_wp2_with (first|(go_at_call 46;refine(l04Some _ _ _ h4).mono ?_;rintro e w9 ⟨rfl,rfl⟩)|(go_at_call 47;refine(HAM _).mono ?_;rintro e w9 ⟨rfl,rfl⟩))
 go_meet
 case rel=>exact⟨by rw [unhide HV],HB3,HL3⟩):P:=h
theorem Sa340.Ka101(h:P:=by
 clear hb1 c0 c1 c2 c3 c4 c5 c6 c7 c8 d0 d1 d2 d3 d4 d5 d6 d7 d8;obtain⟨c0,c1,c2,c3,c4,c5,c6,c7,c8⟩:=nine HA1;obtain⟨d0,d1,d2,d3,d4,d5,d6,d7,d8⟩:=nine HB1;go_wp2_with fail;refine(HP _ HL1).mono ?_;rintro e w2 ⟨rfl,hb1⟩;have HA2:=hide (obj_step HA1 hb1);have HB2:=hide (obj_step HB1 hb1);have HL2:=hide (HL1.trans (hb1.mono HL1.size));clear hb1 c0 c1 c2 c3 c4 c5 c6 c7 c8 d0 d1 d2 d3 d4 d5 d6 d7 d8;obtain⟨c0,c1,c2,c3,c4,c5,c6,c7,c8⟩:=nine HA2;obtain⟨d0,d1,d2,d3,d4,d5,d6,d7,d8⟩:=nine HB2;go_wp2_with fail;refine(HO _ HL2).mono ?_;rintro e w3 ⟨rfl,hb1⟩;have HA3:=hide (obj_step HA2 hb1);have HB3:=hide (obj_step HB2 hb1);have HL3:=hide (HL2.trans (hb1.mono HL2.size));clear hb1 c0 c1 c2 c3 c4 c5 c6 c7 c8 d0 d1 d2 d3 d4 d5 d6 d7 d8;obtain⟨c0,c1,c2,c3,c4,c5,c6,c7,c8⟩:=nine HA3;obtain⟨d0,d1,d2,d3,d4,d5,d6,d7,d8⟩:=nine HB3;go_wp2_with fail;refine(HS _ HL3).mono ?_;rintro e w4 ⟨rfl,hb1⟩;have HA4:=hide (obj_step HA3 hb1);have HB4:=hide (obj_step HB3 hb1);have HL4:=hide (HL3.trans (hb1.mono HL3.size));clear hb1 c0 c1 c2 c3 c4 c5 c6 c7 c8 d0 d1 d2 d3 d4 d5 d6 d7 d8;obtain⟨c0,c1,c2,c3,c4,c5,c6,c7,c8⟩:=nine HA4;obtain⟨d0,d1,d2,d3,d4,d5,d6,d7,d8⟩:=nine HB4;go_wp2_with fail;refine(HR _ HL4).mono ?_;rintro e w5 ⟨rfl,hb1⟩;have HA5:=hide (obj_step HA4 hb1);have HB5:=hide (obj_step HB4 hb1);have HL5:=hide (HL4.trans (hb1.mono HL4.size));clear hb1 c0 c1 c2 c3 c4 c5 c6 c7 c8 d0 d1 d2 d3 d4 d5 d6 d7 d8;obtain⟨c0,c1,c2,c3,c4,c5,c6,c7,c8⟩:=nine HA5;obtain⟨d0,d1,d2,d3,d4,d5,d6,d7,d8⟩:=nine HB5;go_wp2_with fail;go_ret;exact⟨rfl,HL5⟩):P:=h
end Go.Proofs.YtppmcficiphgdaaGreatDoor
