/-
  Parts of proofs that stand more than once, each said once.
-/
import Derived.Test.YtheiblbhlmaphaaRows
import Derived.WalkKit
import Derived.WalkSpells
import Derived.ShutString
import Derived.OneCell
import Derived.Laws.MakeOwn
import Derived.Deep.RegionHeld
import Derived.Deep.QuietTactic
import Derived.Deep.RegionWith
import Derived.BigQuiet
import Derived.Laws.Cover1
import Derived.Laws.IdiomStrings
import Derived.Laws.BytesString
import Derived.Laws.AppendOwnNone
import Derived.Maps.AppendAt
import Derived.Laws.OwnMore
import Derived.Sort.Walk0
import Derived.Lib.Strings
import Derived.Lib.BufferWrite
import Derived.Lib.UnsafeStr
import Derived.Laws.CopyOwn
import Derived.Deep.DeepCutAuto
import Derived.Lib.QuietBelow
import Derived.Deep.CutBlock
import Derived.Lib.ItoaNum
import Derived.Lib.ItoaLen
import Derived.Laws.DeepStrings4
import Derived.Deep.Draws
import Derived.Shelf.SortM.Plain
import Derived.Shelf.SortM.SortNone
import Derived.Shelf.SlicesE.Clone
import Derived.Shelf.SlGeneric
import Derived.Sort.OwnSortedInts
import Derived.Deep.AppendLies
import Derived.Lib.AppendZeros
namespace Go.Proofs.Ytheiblbhlmaphaa
set_option maxRecDepth 100000
variable{P:Prop}
theorem Za0(h:P:=by
 go_wp2_with fail;refine wp_region_quiet_lit (by kernel_rfl) (by kernel_rfl) ?_;repeat (first|go_big_quiet_step ((first|(go_at_call 50;exact qKey _ _ hks hkb' _ _)|(go_at_call_of 49 (IntKind.i64.wrap (pf+ps));exact qAm _ _ g4 _ _)|(go_at_call_of 49 (pf+ps);exact qAm _ _ g5 _ _)|(go_at_call_of 49 pm;exact qAm _ _ g1 _ _)|(go_at_call_of 49 pf;exact qAm _ _ g2 _ _)|(go_at_call_of 49 ps;exact qAm _ _ g3 _ _)))|quiet_step ((first|(go_at_call 50;exact qKey _ _ hks hkb' _ _)|(go_at_call_of 49 (IntKind.i64.wrap (pf+ps));exact qAm _ _ g4 _ _)|(go_at_call_of 49 (pf+ps);exact qAm _ _ g5 _ _)|(go_at_call_of 49 pm;exact qAm _ _ g1 _ _)|(go_at_call_of 49 pf;exact qAm _ _ g2 _ _)|(go_at_call_of 49 ps;exact qAm _ _ g3 _ _))))
 refine wpQuiet_nil ?_;intro _ hw';obtain⟨nq,hw''⟩:=hw';subst hw'';go_wp2_with fail;go_ret;exact⟨ret_bool HBAD.symm,(HBL.alloc HBL.size _).trans ⟨rfl,rfl,rfl,Nat.le_refl _,fun _ _=>rfl⟩⟩):P:=h
theorem Za1(h:P:=by
 clear hm;have e1:(m:Int)+1+1=m+2:=by omega
 have e3:(m:Int)+2+1=m+3:=by omega
 go_wp2_with fail;go_region_with (go_at_call 43;refine(HMT _ _ (by omega)).mono ?_;rintro e w1 ⟨rfl,hb1⟩;have hc0:=(bcell hb1).1 g (k*4) (by simpa using hgl);have hc1:=(bcell hb1).1 g (k*4+1) (by simpa using hgl);have hc2:=(bcell hb1).1 g (k*4+2) (by simpa using hgl);have hc3:=(bcell hb1).1 g (k*4+3) (by simpa using hgl);have HBL1:=hide (HBL.trans (((Below.refl _ _).drew.trans hb1).mono HBL.size));clear hb1)
 all_goals
  go_wp2_with fail
  go_roundw
  case rel=>exact⟨k+1,m+4,by omega,by go_num,by go_num,by have:=unhide HM;omega,HBL1⟩
  case measure=>simp[intOf];omega):P:=h
theorem Za2(h:P:=by
 exact⟨by rw [unhide HV],below_regrown _ dq osq⟩):P:=h
theorem Za3(h:P:=by
 open Sa90 in exact Ya28):P:=h
theorem Za4(h:P:=by
 have hlen:(l.take k).length=k:=by simp;omega
 rw [List.set_append_right _ _ (by omega),hlen,Nat.sub_self];have e:l.length - k=(l.length - (k+1))+1:=by omega
 rw [e,List.replicate_succ,List.take_succ_eq_append_getElem hk,List.append_assoc];rfl):P:=h
theorem Za5(h:P:=by
 open Sa23 in exact Ya5):P:=h
theorem Za6(h:P:=by
 open Sa22 in exact Ya5):P:=h
theorem Za7(h:P:=by
 open Sa21 in exact Ya5):P:=h
theorem Za8(h:P:=by
 obtain⟨e,hg,hc⟩:=h i hi;exact⟨e,hg,⟨by simpa using(hc 0 (by omega)).1,by simpa using(hc 1 (by omega)).1,by simpa using(hc 2 (by omega)).1,by simpa using(hc 3 (by omega)).1⟩,by simpa using(hc 0 (by omega)).2,(hc 1 (by omega)).2,(hc 2 (by omega)).2,(hc 3 (by omega)).2⟩):P:=h
theorem Za9(h:P:=by
 obtain⟨g,off,e,hg,hc⟩:=h i hi;refine⟨g,off,e,hg,?_,?_,?_,?_⟩
 ·simpa using hc 0 (by omega)
 ·simpa [Nat.add_assoc] using hc 1 (by omega)
 ·simpa [Nat.add_assoc] using hc 2 (by omega)
 ·simpa [Nat.add_assoc] using hc 3 (by omega)):P:=h
theorem Za10(h:P:=by
 have h:=unhide HALL;rw [List.take_length] at h;exact HOK.trans h):P:=h
theorem Za11(h:P:=by
 go_wp2_with (go_at_call 33;first|(refine(l01In_yes _ _ _ _ ?_ ?_).mono ?_;omega;omega;rintro e w' ⟨rfl,rfl⟩)|(refine(l01In_no _ _ _ _ ?_).mono ?_;omega;rintro e w' ⟨rfl,rfl⟩))
 go_ret;exact⟨ret_bool (by rw [unhide HF];simp;omega),rfl⟩):P:=h
theorem Za12(h:P:=by
 open Sa20 in exact Ya5):P:=h
theorem Za13(h:P:=by
 exact⟨0,s,Nat.zero_le _,rfl,rfl,rfl,by rw [mks_zero];exact HA,KeepsL.refl _ _⟩):P:=h
theorem Za14(h:P:=by
 have HP:Hid (TT=false):=unhide HBAD (by rw [unhide HVB,hbv];rfl);subst hbv;clear HBAD HNX HBB HOK HVB;go_wp2_with fail;go_ret;exact⟨ret_bool HP.symm,HBL2⟩):P:=h
theorem Za15(h:P:=by
 subst hbv;clear HBAD HNX HBB HOK HVB;go_wp2_with fail;go_roundw
 case rel=>exact⟨k+1,by omega,by go_num,HG,HBK2,HBL2⟩
 case measure=>simp[intOf];omega):P:=h
theorem Za16(h:P:=by
 rcases Nat.lt_or_ge g w.heap.size with h'|h'
 ·exact h'
 ·rw [Array.getElem?_eq_none h'] at h;cases h):P:=h
theorem Za17(h:P:=by
 go_wp2_with fail;go_ret;exact⟨rfl,((Below.refl _ _).alloc (Nat.le_refl _) _).alloc (by simp) _⟩):P:=h
theorem Za18(h:P:=by
 simp only[Int.toNat_natCast] at h;rw [e] at h;exact h):P:=h
theorem Za19(h:P:=by
 exact⟨0,s,Nat.zero_le _,rfl,rfl,rfl,Below.refl _ _⟩):P:=h
theorem Za20(h:P:=by
 generalize l[k]=y at *;go_wp2_with fail;go_round
 case rel=>exact⟨k+1,by omega,by go_num,by rw [unhide HS,unhide HN];rfl⟩
 case measure=>simp[intOf];omega):P:=h
theorem Za21(h:P:=by
 go_ret;exact⟨ret_bool HN.symm,below_one w _⟩):P:=h
theorem Za22(h:P:=by
 rw [ej,←hf,hu] at h2;injection e with e
 subst e;have ea:(⟨g,off,none⟩:Addr).add j=⟨g,off+j,none⟩:=by unfold Addr.add;split<;>simp_all
 rw [ea];exact h2):P:=h
theorem Za23(h:P:=by
 have h:=unhide HCL k hlt;have h2:=unhide HALL;rw [←unhide HY] at h;exact h.trans (by rw [show(fun s t:Int=>ltB s t)=ltB from rfl,h2];rfl)):P:=h
theorem Za24(h:P:=by
 clear hz;go_wp2_with fail;go_ret;exact⟨ret_bool HE.symm,HBL⟩):P:=h
theorem Za25(h:P:=by
 exact⟨0,Nat.zero_le _,rfl,Below.refl _ _⟩):P:=h
theorem Za26(h:P:=by
 go_enter Try.func4,Try.ntmps4
 go_wp2_with (go_at_call 13;refine(HC _).mono ?_;rintro e w1 ⟨rfl,rfl⟩)
 go_ret;exact⟨rfl,below_one' w _⟩):P:=h
theorem Za27(h:P:=by
 rcases HPK with h|⟨j,y,h1,h2,h3⟩
 ·exact .inl h
 ·exact .inr ⟨j,y,h1,h2,(hbw.cell (p:=⟨g,off+j*4,none⟩) hgw).trans h3⟩):P:=h
theorem Za28(h:P:=by
 go_enter Try.func70,Try.ntmps70
 go_wp2
 go_ret;exact⟨rfl,rfl⟩):P:=h
theorem Za29(h:P:=by
 go_wp2_with fail;go_ret;exact⟨ret_bool HE.symm,below_one' w _⟩):P:=h
theorem Za30(h:P:=by
 go_enter Try.func83,Try.ntmps83
 go_wp2
 go_ret;exact⟨rfl,rfl⟩):P:=h
theorem Za31(h:P:=by
 go_enter Try.func84,Try.ntmps84
 go_wp2
 go_ret;exact⟨rfl,rfl⟩):P:=h
theorem Za32(h:P:=by
 go_enter Try.func33,Try.ntmps33
 go_wp2
 go_ret;exact⟨rfl,rfl⟩):P:=h
theorem Za33(h:P:=by
 go_wp2_with (go_at_call 33;refine(l01InR _ _ _ r _ h).mono ?_;rintro e w1 ⟨rfl,rfl⟩)
 go_ret;exact⟨rfl,rfl⟩):P:=h
theorem Za34(h:P:=by
 go_round
 case rel=>exact⟨k+1,x,by omega,by go_num,rfl,HLN.symm,HV⟩
 case measure=>simp[intOf];omega):P:=h
theorem Za35(h:P:=by
 simp only[Bool.and_eq_true,decide_eq_true_eq] at h;omega):P:=h
theorem Za36(h:P:=by
 simp only[Bool.and_eq_true,decide_eq_true_eq];omega):P:=h
theorem Za37(h:P:=by
 have h:=unhide HCL k hlt;have h2:=unhide HALL;rw [←unhide HY] at h;rw [h,h2];rfl):P:=h
theorem Za38(h:P:=by
 rcases List.mem_cons.1 (hs a (by simp)) with h|h
 ·exact absurd h hab
 ·exact h):P:=h
theorem Za39(h:P:=by
 unfold placeB at h;simp only[Bool.and_eq_true] at h;exact(of_decide_eq_true h.1.1.1.2).2):P:=h
theorem Za40(h:P:=by
 refine wpQuiet_nil ?_;intro _ hw';obtain⟨⟨dq,osq⟩,hw''⟩:=hw';subst hw'';go_wp2_with fail;go_meet
 case rel=>exact Za2):P:=h
theorem Za41(h:P:=by
 have HBAD:=hide (psOk_bad hlt (show okAt l (j+1)=false by rw [unhide HOKA];simp[hsl]));clear HOKA HNX hsl;exact Za0):P:=h
theorem Za42(h:P:=by
 go_enter Try.func67,Try.ntmps67
 go_wp2_with (go_at_call 65;refine(HA _).mono ?_;rintro e w1 ⟨rfl,rfl⟩)
 exact Za21):P:=h
theorem Za43(h:P:=by
 go_enter Try.func34,Try.ntmps34
 go_wp2_with (go_at_call 44;refine HH.mono ?_;rintro e w1 ⟨rfl,rfl⟩)
 exact Za21):P:=h
theorem Za44(h:P:=by
 go_enter Try.func68,Try.ntmps68
 go_wp2
 go_ret;exact⟨ret_bool HF.symm,rfl⟩):P:=h
theorem Za45(h:P:=by
 rcases List.mem_cons.1 hx with h2|h2
 ·omega
 ·have:=hA'.1 x h2;omega):P:=h
theorem Za46(h:P:=by
 rw [unhide HY,flat_snoc_int,List.length_append,List.length_singleton];exact hown'):P:=h
theorem Za47(h:P:=by
 exact⟨0,Nat.zero_le _,rfl,rfl,Below.refl _ _⟩):P:=h
theorem Za48(h:P:=by
 go_enter Try.func13,Try.ntmps13
 go_wp2_with fail;go_ret;exact⟨rfl,rfl⟩):P:=h
theorem Za49(h:P:=by
 unfold World.setCell;simp only[Array.getElem?_modify];rw [if_pos trivial,h];rfl):P:=h
theorem Za50(h:P:=by
 clear HBB;refine wp_region_quiet_below (by kernel_rfl) (by kernel_rfl) ?_;repeat (first|go_big_quiet_step ((first|(go_at_call_of 33 si;exact a1 _ _)|(go_at_call 50;exact a2 _ _)|(go_at_call 48;exact a3 _ _)|(go_at_call_of 33 st;exact a4 _ _)))|quiet_step ((first|(go_at_call_of 33 si;exact a1 _ _)|(go_at_call 50;exact a2 _ _)|(go_at_call 48;exact a3 _ _)|(go_at_call_of 33 st;exact a4 _ _))))
 exact Za40):P:=h
theorem Za51(h:P:=by
 clear HBB;refine wp_region_quiet_below (by kernel_rfl) (by kernel_rfl) ?_;repeat (first|go_big_quiet_step ((first|(go_at_call 33;exact a1 _ _)|(go_at_call 34;exact a2 _ _)|(go_at_call 50;exact a3 _ _)|(go_at_call 48;exact a4 _ _)))|quiet_step ((first|(go_at_call 33;exact a1 _ _)|(go_at_call 34;exact a2 _ _)|(go_at_call 50;exact a3 _ _)|(go_at_call 48;exact a4 _ _))))
 exact Za40):P:=h
theorem Za52(h:P:=by
 clear HBB;refine wp_region_quiet_below (by kernel_rfl) (by kernel_rfl) ?_;repeat (first|go_big_quiet_step ((first|(go_at_call 34;exact cN _ _)|(go_at_call 48;exact cS _ _)))|quiet_step ((first|(go_at_call 34;exact cN _ _)|(go_at_call 48;exact cS _ _))))
 exact Za40):P:=h
theorem Ya0(h:P:=by
 cases h1:decide (old+1≤si∧si≤1000000000)
 case' false=>
  have a1:=rIn si (old+1) 1000000000 false W1 h1
  have HV:=hide (show bb=true by rw [←unhide HBB];simp[h1])
  clear HBB
  refine wp_region_quiet_below (by kernel_rfl) (by kernel_rfl) ?_
  repeat (first|go_big_quiet_step ((first|(go_at_call_of 33 si;exact a1 _ _)))|quiet_step ((first|(go_at_call_of 33 si;exact a1 _ _))))
  refine wpQuiet_nil ?_
  intro _ hw'
  obtain⟨⟨dq,osq⟩,hw''⟩:=hw'
  subst hw''
  go_wp2_with fail
  go_meet
  case rel=>exact Za2
 have a1:=rIn si (old+1) 1000000000 true W1 h1;cases h2:keyOk sx.data.toList
 case' false=>
  have a2:=rKey sx false W1 (Nat.le_trans hks (by unfold maxLen;omega)) h2
  have HV:=hide (show bb=true by rw [←unhide HBB];simp[h2])
  clear HBB
  refine wp_region_quiet_below (by kernel_rfl) (by kernel_rfl) ?_
  repeat (first|go_big_quiet_step ((first|(go_at_call_of 33 si;exact a1 _ _)|(go_at_call 50;exact a2 _ _)))|quiet_step ((first|(go_at_call_of 33 si;exact a1 _ _)|(go_at_call 50;exact a2 _ _))))
  refine wpQuiet_nil ?_
  intro _ hw'
  obtain⟨⟨dq,osq⟩,hw''⟩:=hw'
  subst hw''
  go_wp2_with fail
  go_meet
  case rel=>exact Za2
 have a2:=rKey sx true W1 (Nat.le_trans hks (by unfold maxLen;omega)) h2;cases h3:smB sn
 case' false=>
  have a3:=rSome sn false W1 h3
  have HV:=hide (show bb=true by rw [←unhide HBB];simp[h3])
  clear HBB
  refine wp_region_quiet_below (by kernel_rfl) (by kernel_rfl) ?_
  repeat (first|go_big_quiet_step ((first|(go_at_call_of 33 si;exact a1 _ _)|(go_at_call 50;exact a2 _ _)|(go_at_call 48;exact a3 _ _)))|quiet_step ((first|(go_at_call_of 33 si;exact a1 _ _)|(go_at_call 50;exact a2 _ _)|(go_at_call 48;exact a3 _ _))))
  refine wpQuiet_nil ?_
  intro _ hw'
  obtain⟨⟨dq,osq⟩,hw''⟩:=hw'
  subst hw''
  go_wp2_with fail
  go_meet
  case rel=>exact Za2
 have a3:=rSome sn true W1 h3;cases h4:decide (0≤st∧st≤2)
 case' false=>
  have a4:=rIn st 0 2 false W1 h4
  have HV:=hide (show bb=true by rw [←unhide HBB];simp[h4])
  clear HBB
  refine wp_region_quiet_below (by kernel_rfl) (by kernel_rfl) ?_
  repeat (first|go_big_quiet_step ((first|(go_at_call_of 33 si;exact a1 _ _)|(go_at_call 50;exact a2 _ _)|(go_at_call 48;exact a3 _ _)|(go_at_call_of 33 st;exact a4 _ _)))|quiet_step ((first|(go_at_call_of 33 si;exact a1 _ _)|(go_at_call 50;exact a2 _ _)|(go_at_call 48;exact a3 _ _)|(go_at_call_of 33 st;exact a4 _ _))))
  refine wpQuiet_nil ?_
  intro _ hw'
  obtain⟨⟨dq,osq⟩,hw''⟩:=hw'
  subst hw''
  go_wp2_with fail
  go_meet
  case rel=>exact Za2
 have a4:=rIn st 0 2 true W1 h4;exact Ka0):P:=h
theorem Sa0.Ka0(h:P:=by
 by_cases hp:y < si
 case' neg=>
  have hy:decide (si≤y)=true:=decide_eq_true (by omega)
  have HV:=hide (show bb=true by rw [←unhide HBB];simp[hp])
  clear HBB
  refine wp_region_quiet_below (by kernel_rfl) (by kernel_rfl) ?_
  repeat (first|go_big_quiet_step ((first|(go_at_call_of 33 si;exact a1 _ _)|(go_at_call 50;exact a2 _ _)|(go_at_call 48;exact a3 _ _)|(go_at_call_of 33 st;exact a4 _ _)))|quiet_step ((first|(go_at_call_of 33 si;exact a1 _ _)|(go_at_call 50;exact a2 _ _)|(go_at_call 48;exact a3 _ _)|(go_at_call_of 33 st;exact a4 _ _))))
  refine wpQuiet_nil ?_
  intro _ hw'
  obtain⟨⟨dq,osq⟩,hw''⟩:=hw'
  subst hw''
  go_wp2_with fail
  go_meet
  case rel=>exact Za2
 have hy:decide (si≤y)=false:=decide_eq_false (by omega);have HV:=hide (show bb=false by rw [←unhide HBB];simp[h1,h2,h3,h4,hp]);exact Za50):P:=h
theorem Sa1.Ka0(h:P:=by
 have HV:=hide (show bb=false by rw [←unhide HBB];simp[h1,h2,h3,h4]);exact Za50):P:=h
theorem Ya1(h:P:=by
 cases h1:decide (1≤si∧si≤next - 1)
 case' false=>
  have a1:=rIn si 1 (next - 1) false W1 h1
  have HV:=hide (show bb=true by rw [←unhide HBB];simp[h1])
  clear HBB
  refine wp_region_quiet_below (by kernel_rfl) (by kernel_rfl) ?_
  repeat (first|go_big_quiet_step ((first|(go_at_call 33;exact a1 _ _)))|quiet_step ((first|(go_at_call 33;exact a1 _ _))))
  refine wpQuiet_nil ?_
  intro _ hw'
  obtain⟨⟨dq,osq⟩,hw''⟩:=hw'
  subst hw''
  go_wp2_with fail
  go_meet
  case rel=>exact Za2
 have a1:=rIn si 1 (next - 1) true W1 h1;cases h2:NN st
 case' false=>
  have a2:=unhide HNR st false W1 HBL1 h2
  have HV:=hide (show bb=true by rw [←unhide HBB];simp[h2])
  clear HBB
  refine wp_region_quiet_below (by kernel_rfl) (by kernel_rfl) ?_
  repeat (first|go_big_quiet_step ((first|(go_at_call 33;exact a1 _ _)|(go_at_call 34;exact a2 _ _)))|quiet_step ((first|(go_at_call 33;exact a1 _ _)|(go_at_call 34;exact a2 _ _))))
  refine wpQuiet_nil ?_
  intro _ hw'
  obtain⟨⟨dq,osq⟩,hw''⟩:=hw'
  subst hw''
  go_wp2_with fail
  go_meet
  case rel=>exact Za2
 have a2:=unhide HNR st true W1 HBL1 h2;cases h3:keyOk sx.data.toList
 case' false=>
  have a3:=rKey sx false W1 (Nat.le_trans hks (by unfold maxLen;omega)) h3
  have HV:=hide (show bb=true by rw [←unhide HBB];simp[h3])
  clear HBB
  refine wp_region_quiet_below (by kernel_rfl) (by kernel_rfl) ?_
  repeat (first|go_big_quiet_step ((first|(go_at_call 33;exact a1 _ _)|(go_at_call 34;exact a2 _ _)|(go_at_call 50;exact a3 _ _)))|quiet_step ((first|(go_at_call 33;exact a1 _ _)|(go_at_call 34;exact a2 _ _)|(go_at_call 50;exact a3 _ _))))
  refine wpQuiet_nil ?_
  intro _ hw'
  obtain⟨⟨dq,osq⟩,hw''⟩:=hw'
  subst hw''
  go_wp2_with fail
  go_meet
  case rel=>exact Za2
 have a3:=rKey sx true W1 (Nat.le_trans hks (by unfold maxLen;omega)) h3;cases h4:smB sn
 case' false=>
  have a4:=rSome sn false W1 h4
  have HV:=hide (show bb=true by rw [←unhide HBB];simp[h4])
  clear HBB
  refine wp_region_quiet_below (by kernel_rfl) (by kernel_rfl) ?_
  repeat (first|go_big_quiet_step ((first|(go_at_call 33;exact a1 _ _)|(go_at_call 34;exact a2 _ _)|(go_at_call 50;exact a3 _ _)|(go_at_call 48;exact a4 _ _)))|quiet_step ((first|(go_at_call 33;exact a1 _ _)|(go_at_call 34;exact a2 _ _)|(go_at_call 50;exact a3 _ _)|(go_at_call 48;exact a4 _ _))))
  refine wpQuiet_nil ?_
  intro _ hw'
  obtain⟨⟨dq,osq⟩,hw''⟩:=hw'
  subst hw''
  go_wp2_with fail
  go_meet
  case rel=>exact Za2
 have a4:=rSome sn true W1 h4;exact Ka1):P:=h
theorem Sa2.Ka1(h:P:=by
 by_cases hp:y < si
 case' neg=>
  have hy:decide (si≤y)=true:=decide_eq_true (by omega)
  have HV:=hide (show bb=true by rw [←unhide HBB];simp[hp])
  clear HBB
  refine wp_region_quiet_below (by kernel_rfl) (by kernel_rfl) ?_
  repeat (first|go_big_quiet_step ((first|(go_at_call 33;exact a1 _ _)|(go_at_call 34;exact a2 _ _)|(go_at_call 50;exact a3 _ _)|(go_at_call 48;exact a4 _ _)))|quiet_step ((first|(go_at_call 33;exact a1 _ _)|(go_at_call 34;exact a2 _ _)|(go_at_call 50;exact a3 _ _)|(go_at_call 48;exact a4 _ _))))
  refine wpQuiet_nil ?_
  intro _ hw'
  obtain⟨⟨dq,osq⟩,hw''⟩:=hw'
  subst hw''
  go_wp2_with fail
  go_meet
  case rel=>exact Za2
 have hy:decide (si≤y)=false:=decide_eq_false (by omega);have HV:=hide (show bb=false by rw [←unhide HBB];simp[h1,h2,h3,h4,hp]);exact Za51):P:=h
theorem Sa3.Ka1(h:P:=by
 have HV:=hide (show bb=false by rw [←unhide HBB];simp[h1,h2,h3,h4]);exact Za51):P:=h
theorem Ya2(h:P:=by
 go_upto_region 6 with fail;refine Fo.wp_at (fun V hV=>?_);have hblk:V.heap[wr.heap.size]?=some (.cells #[.string pk,.int .i64 pm,.int .i64 pf,.int .i64 ps] 67 (0,0)):=by rw [hV];exact heap_alloc_new wr _
 have HBV:=hide (show Below w.heap.size w V by rw [hV];exact HBL.alloc HBL.size _);have hgV:=Fo.lt_of_blk hblk;obtain⟨⟨p0,p1,p2,p3⟩,_⟩:=four_at hblk;exact Ka2):P:=h
theorem Sa4.Ka2(h:P:=by
 open Sa64 in exact Ya20):P:=h
theorem Sa5.Ka2(h:P:=by
 open Sa63 in exact Ya20):P:=h
theorem Sa6.Ka2(h:P:=by
 open Sa92 in exact Ya29):P:=h
theorem Sa7.Ka2(h:P:=by
 clear hblk hV c0 c1 c2 c3;open Sa82 in exact Ya25):P:=h
theorem Sa8.Ka2(h:P:=by
 clear hblk hV c0 c1 c2 c3;open Sa67 in exact Ya22):P:=h
theorem Ya3(h:P:=by
 cases h3:smB lo
 case' false=>
  have cS:=rSome lo false W1 h3
  have HV:=hide (show bb=true by rw [←unhide HBB];simp[h3])
  clear HBB
  refine wp_region_quiet_below (by kernel_rfl) (by kernel_rfl) ?_
  repeat (first|go_big_quiet_step ((first|(go_at_call 34;exact cN _ _)|(go_at_call 48;exact cS _ _)))|quiet_step ((first|(go_at_call 34;exact cN _ _)|(go_at_call 48;exact cS _ _))))
  refine wpQuiet_nil ?_
  intro _ hw'
  obtain⟨⟨dq,osq⟩,hw''⟩:=hw'
  subst hw''
  go_wp2_with fail
  go_meet
  case rel=>exact Za2
 have cS:=rSome lo true W1 h3;by_cases h4:ids.length≤40
 case' neg=>
  have hq:decide ((40:Int) < ids.length)=true:=decide_eq_true (by omega)
  have HV:=hide (show bb=true by rw [←unhide HBB];simp[h4])
  clear HBB
  refine wp_region_quiet_below (by kernel_rfl) (by kernel_rfl) ?_
  repeat (first|go_big_quiet_step ((first|(go_at_call 34;exact cN _ _)|(go_at_call 48;exact cS _ _)))|quiet_step ((first|(go_at_call 34;exact cN _ _)|(go_at_call 48;exact cS _ _))))
  refine wpQuiet_nil ?_
  intro _ hw'
  obtain⟨⟨dq,osq⟩,hw''⟩:=hw'
  subst hw''
  go_wp2_with fail
  go_meet
  case rel=>exact Za2
 have hq:decide ((40:Int) < ids.length)=false:=decide_eq_false (by omega);exact Ka3):P:=h
theorem Sa9.Ka3(h:P:=by
 have HV:=hide (show bb=false by rw [←unhide HBB];simp[h1,h3,h4,h2]);exact Za52):P:=h
theorem Sa10.Ka3(h:P:=by
 have HV:=hide (show bb=false by rw [←unhide HBB];simp[h1,h3,h4]);exact Za52):P:=h
theorem Ya4(h:P:=by
 have HBK2:=hide (obj_step HBK1 hbx);have HBL2:=hide (HBL1.trans (hbx.mono HBL1.size));exact Ka4):P:=h
theorem Sa11.Ka4(h:P:=by
 have HI2:=hide (GR.At.below HI1 hbx);clear hbx d0 d1 d2 c0 c1 c2 c3 c4 c5 c6 c7 c8 k0 k1 k2 k3 k4 k5 k6 k7 k8 m0 m1 m2 HW1 HBK1 HBL1 HI1 HPK1 HKI;cases hbv:bb
 case' true=>
  have HP:Hid (TT=false):=unhide HBAD (by
   rw [unhide HNX]
   have h:=unhide HBB
   rw [hbv] at h
   unfold snB
   dsimp only
   cases h1:NN fr<;>cases h2:pv<;>cases h3:smB lo<;>cases h4:decide (ids.length≤40)<;>simp_all)
  clear HBAD HNX HBB
  subst hbv
  go_wp2_with fail
  go_ret
  exact⟨ret_bool HP.symm,HBL2⟩
 have HGD:Hid (chk PP RR (seen.take (k+1))=chk (idB lo) ltB ids):=by
  rw [unhide HNX];have h:=unhide HBB;rw [hbv] at h;unfold snB;dsimp only;cases h1:NN fr<;>cases h2:pv<;>cases h3:smB lo<;>cases h4:decide (ids.length≤40)<;>simp_all
 subst hbv;clear HNX HBB;obtain⟨d0,d1,d2⟩:=three HW2;have hidl:=unhide HIDS;go_wp2_with fail;go_loopw [6] (fun i wr2=>∃m:Nat,m≤ids.length∧i= .int .i64 m∧chk (idB lo) ltB (ids.take m)=true∧Below wc.heap.size wc wr2) (fun i _=>ids.length - (intOf i).toNat)
 case atStart=>exact Za47
 case round=>
  obtain⟨m,hm,rfl,hall,hbx⟩:=hrel;have HBX:=hide hbx;have HALM:=hide hall;have HW3:=hide (obj_step HW2 hbx);obtain⟨d0,d1,d2⟩:=three HW3;clear hall;by_cases hlm:m < ids.length
  case' neg=>
   have hke:m=ids.length:=by omega
   subst hke
   have hnlt:decide ((ids.length:Int) < (ids.length:Int))=false:=by simp
   have HF:Hid (chk PP RR (seen.take (k+1))=true):=by
    have h:=unhide HALM;rw [List.take_length] at h;exact HGD.trans h
   have HB9:=hide (obj_step HBK2 hbx)
   have HL9:=hide (HBL2.trans (hbx.mono HBL2.size))
   clear hbx
   go_wp2_with fail
   go_roundw
   case rel=>exact⟨k+1,by omega,by go_num,HF,HB9,HL9⟩
   case measure=>simp[intOf];omega
  have HBM:Hid (chk (idB lo) ltB (ids.take (m+1))=false→TT=false):=fun h=>HBAD (HGD.trans (chk_bad _ _ _ _ h))
  have HL9:=hide (HBL2.trans (hbx.mono HBL2.size));have hI3:=GR.At.below HI2 hbx;clear hbx;cases m with
  |zero=>
   obtain⟨g2,off2,rfl,hg2,q0⟩:=IntsAt.one hI3 0 hlm
   rw [Nat.add_zero] at q0
   have hgt:decide ((0:Int) < ((0:Nat):Int))=false:=rfl
   have HNX:Hid (chk (idB lo) ltB (ids.take (0+1))=idB lo ids[0]):=chk_first (idB lo) ltB ids hlm
   clear hI3
   generalize ids[0]=x at *
   cases h1:decide (lo≤x∧x≤1000000000)
   case' false=>
    have HV:=hide (HBM (by rw [unhide HNX];simp[idB,h1]))
    clear HNX HBM
    go_wp2_with fail
    refine wp_region_quiet_lit (by kernel_rfl) (by kernel_rfl) ?_
    repeat (first|go_big_quiet_step ((first|(go_at_call 33;exact qIn _ _ _ _ h1 _ _)))|quiet_step ((first|(go_at_call 33;exact qIn _ _ _ _ h1 _ _))))
    refine wpQuiet_nil ?_
    intro _ hw'
    obtain⟨nq,hw''⟩:=hw'
    subst hw''
    go_wp2_with fail
    go_ret
    exact⟨ret_bool HV.symm,HL9.trans ⟨rfl,rfl,rfl,Nat.le_refl _,fun _ _=>rfl⟩⟩
   have HV:=hide (show chk (idB lo) ltB (ids.take (0+1))=true by rw [unhide HNX];simp[idB,h1])
   clear HNX HBM
   go_wp2_with fail
   refine wp_region_quiet_lit (by kernel_rfl) (by kernel_rfl) ?_
   repeat (first|go_big_quiet_step ((first|(go_at_call 33;exact qIn _ _ _ _ h1 _ _)))|quiet_step ((first|(go_at_call 33;exact qIn _ _ _ _ h1 _ _))))
   refine wpQuiet_nil ?_
   intro _ hw'
   obtain⟨nq,hw''⟩:=hw'
   subst hw''
   go_wp2_with fail
   go_roundw
   case rel=>exact⟨0+1,by omega,by go_num,HV,HBX.trans ⟨rfl,rfl,rfl,Nat.le_refl _,fun _ _=>rfl⟩⟩
   case measure=>simp[intOf];omega
  |succ j=>
   obtain⟨g2,off2,e1,hg2,q0⟩:=IntsAt.one hI3 (j+1) hlm
   obtain⟨g3,off3,e2,hg3,q1⟩:=IntsAt.one hI3 j (by omega)
   rw [e1] at e2
   injection e2 with e2
   injection e2 with e2 e3
   subst e2 e3 e1
   have hgt:decide ((0:Int) < ((j+1:Nat):Int))=true:=decide_eq_true (by omega)
   have HNX:Hid (chk (idB lo) ltB (ids.take (j+1+1))=(idB lo ids[j+1]&&ltB ids[j] ids[j+1])):=by
    have h:=chk_next (idB lo) ltB ids j hlm;rw [unhide HALM] at h;exact h
   clear hI3
   generalize ids[j]=y at *
   generalize ids[j+1]=x at *
   cases h1:decide (lo≤x∧x≤1000000000)
   case' false=>
    have HV:=hide (HBM (by rw [unhide HNX];simp[idB,h1]))
    clear HNX HBM
    go_wp2_with fail
    refine wp_region_quiet_lit (by kernel_rfl) (by kernel_rfl) ?_
    repeat (first|go_big_quiet_step ((first|(go_at_call 33;exact qIn _ _ _ _ h1 _ _)))|quiet_step ((first|(go_at_call 33;exact qIn _ _ _ _ h1 _ _))))
    refine wpQuiet_nil ?_
    intro _ hw'
    obtain⟨nq,hw''⟩:=hw'
    subst hw''
    go_wp2_with fail
    go_ret
    exact⟨ret_bool HV.symm,HL9.trans ⟨rfl,rfl,rfl,Nat.le_refl _,fun _ _=>rfl⟩⟩
   by_cases h2:y < x
   case' neg=>
    have hy:decide (x≤y)=true:=decide_eq_true (by omega)
    have HV:=hide (HBM (by rw [unhide HNX];simp[ltB,h2]))
    clear HNX HBM
    go_wp2_with fail
    refine wp_region_quiet_lit (by kernel_rfl) (by kernel_rfl) ?_
    repeat (first|go_big_quiet_step ((first|(go_at_call 33;exact qIn _ _ _ _ h1 _ _)))|quiet_step ((first|(go_at_call 33;exact qIn _ _ _ _ h1 _ _))))
    refine wpQuiet_nil ?_
    intro _ hw'
    obtain⟨nq,hw''⟩:=hw'
    subst hw''
    go_wp2_with fail
    go_ret
    exact⟨ret_bool HV.symm,HL9.trans ⟨rfl,rfl,rfl,Nat.le_refl _,fun _ _=>rfl⟩⟩
   have hy:decide (x≤y)=false:=decide_eq_false (by omega)
   have HV:=hide (show chk (idB lo) ltB (ids.take (j+1+1))=true by rw [unhide HNX];simp[idB,h1,ltB,h2])
   clear HNX HBM
   go_wp2_with fail
   refine wp_region_quiet_lit (by kernel_rfl) (by kernel_rfl) ?_
   repeat (first|go_big_quiet_step ((first|(go_at_call 33;exact qIn _ _ _ _ h1 _ _)))|quiet_step ((first|(go_at_call 33;exact qIn _ _ _ _ h1 _ _))))
   refine wpQuiet_nil ?_
   intro _ hw'
   obtain⟨nq,hw''⟩:=hw'
   subst hw''
   go_wp2_with fail
   go_roundw
   case rel=>exact⟨j+1+1,by omega,by go_num,HV,HBX.trans ⟨rfl,rfl,rfl,Nat.le_refl _,fun _ _=>rfl⟩⟩
   case measure=>simp[intOf];omega):P:=h
theorem Sa12.Ka4(h:P:=by
 clear hbx d0 d1 d2 d3 c0 c1 c2 c3 c4 c5 c6 c7 c8 k0 k1 k2 k3 k4 k5 k6 k7 k8 m0 m1 m2 m3 HW1 HBK1 HBL1 HPK1
 have HVB:=hide (show chk RQ RR (reqs.take (k+1))= !bb by
  rw [unhide HNX,←unhide HBB,unhide HOK]
  simp only[Bool.not_not])
 cases hbv:bb
 ·have HG:Hid (chk RQ RR (reqs.take (k+1))=true):=by rw [unhide HVB,hbv];exact hide rfl
  exact Za15
 ·exact Za14):P:=h
theorem Sa13.Ka4(h:P:=by
 clear hbx d0 d1 d2 d3 c0 c1 c2 c3 c4 c5 c6 c7 c8 k0 k1 k2 k3 k4 k5 k6 k7 k8 m0 m1 m2 m3 HW1 HBK1 HBL1 HPK1
 have HVB:=hide (show chk OT RO (out.take (k+1))= !bb by
  rw [unhide HNX,←unhide HBB,unhide HOK]
  simp only[Bool.not_not])
 cases hbv:bb
 ·have HG:Hid (chk OT RO (out.take (k+1))=true):=by rw [unhide HVB,hbv];exact hide rfl
  exact Za15
 ·exact Za14):P:=h
theorem Sa14.Ka4(h:P:=by
 have HW2:=hide (obj_step HW1 hbx);clear hbx d0 d1 d2 d3 c0 c1 c2 c3 c4 c5 c6 c7 c8 HW1 HBK1 HBL1 HBB;obtain⟨d0,d1,d2,d3⟩:=fourC HW2;cases hbv:bb
 ·have HG:=hide (show chk KB RR (out.take (k+1))=true by rw [unhide HVB,hbv];rfl);subst hbv;clear HBAD HVB;go_wp2_with fail;go_roundw
  case rel=>exact⟨k+1,si,by omega,by go_num,rfl,HLN.symm,HG,HBK2,HBL2⟩
  case measure=>simp[intOf];omega
 ·have HP:=hide (HBAD (by rw [unhide HVB,hbv];rfl));subst hbv;clear HBAD HVB;go_wp2_with fail;go_ret;exact⟨ret_bool HP.symm,HBL2⟩):P:=h
theorem Ya5(h:P:=by
 have hke:k=l.length:=by omega
 subst hke;have hnlt:decide ((l.length:Int) < (l.length:Int))=false:=by simp
 exact Ka5):P:=h
theorem Sa15.Ka5(h:P:=by
 go_wp2_with fail;go_ret;have h:=unhide HB;rw [List.take_length,Nat.sub_self,List.replicate_zero,List.append_nil] at h;exact⟨rfl,h,HBL⟩):P:=h
theorem Sa16.Ka5(h:P:=by
 have h:=unhide HN;rw [List.take_length] at h;have HF:=hide h;clear h;go_wp2_with fail;go_ret;exact⟨ret_bool HF.symm,rfl⟩):P:=h
theorem Sa17.Ka5(h:P:=by
 have h:=unhide HN;rw [List.take_length] at h;have HF:=hide h;clear h;go_wp2_with fail;go_ret;exact⟨⟨-1,rfl,by rw [unhide HF];rfl⟩,rfl⟩):P:=h
theorem Sa18.Ka5(h:P:=by
 have h:=unhide HM;rw [List.take_length] at h;have HME:=hide h;clear hm h;go_wp2_with fail;go_ret;exact⟨ret_int (by rw [unhide HME]),HBL⟩):P:=h
theorem Sa19.Ka5(h:P:=by
 have h:=unhide HM;rw [List.take_length] at h;have HME:=hide h;have hS:=unhide HR;rw [mSk_all] at hS;have HS:=hide hS;clear hm h hS;go_wp2_with fail;go_ret;exact⟨ret_int (by rw [unhide HME]),HS,HK⟩):P:=h
theorem Sa20.Ka5(h:P:=by
 have HF:=hide (psOk_good HALL);go_wp2_with fail;go_ret;exact⟨ret_bool (by rw [unhide HF];simp<;>omega),HBL⟩):P:=h
theorem Sa21.Ka5(h:P:=by
 clear hm;go_wp2_with fail;go_ret;exact⟨ret_int (by have:=unhide HM;omega),HBL⟩):P:=h
theorem Sa22.Ka5(h:P:=by
 clear hm;go_wp2_with fail;go_ret;exact⟨ret_int (by have:=unhide HM;omega),HR,HK⟩):P:=h
theorem Sa23.Ka5(h:P:=by
 go_wp2_with fail;go_ret;exact⟨rfl,HBL⟩):P:=h
theorem Ya6(h:P:=by
 have HML:=hide hml;clear hm hml;go_wp2_with (go_at_call 43;refine(HMT _ _ (by omega)).mono ?_;rintro e w1 ⟨rfl,hb1⟩;have HB1:=hide hb1;have hgz:=hb1.size;obtain⟨hcc,hff⟩:=bcell hb1;clear hb1)
 exact Ka6):P:=h
theorem Sa24.Ka6(h:P:=by
 go_roundw
 case rel=>
  have hpos:0 < l.length:=by omega
  have h0:=GR.W.toC encRq_length (by omega) HR;open Sa59 in exact Ya18
 case measure=>simp[intOf];omega):P:=h
theorem Sa25.Ka6(h:P:=by
 go_roundw
 case rel=>
  have hpos:0 < l.length:=by omega
  have h0:=GR.W.toC encSnt_length (by omega) HR;open Sa58 in exact Ya18
 case measure=>simp[intOf];omega):P:=h
theorem Sa26.Ka6(h:P:=by
 go_roundw
 case rel=>
  have hpos:0 < l.length:=by omega
  have h0:=GR.W.toC encP_length (by omega) HR;open Sa57 in exact Ya18
 case measure=>simp[intOf];omega):P:=h
theorem Ya7(h:P:=by
 have hbd:=eSeen_le s 1048600 (l.take k) (fun x hx=>HL2 x (List.mem_of_mem_take hx));rw [←hm,List.length_take,Nat.min_eq_left (by omega)] at hbd;obtain⟨hb1,hb2⟩:=hbd;have hm0:0 < m:=by omega
 have hm1:(m:Int)≤92233720368547758:=by omega
 exact Ka7):P:=h
theorem Sa27.Ka7(h:P:=by
 have hS:SeenW wr a g I (mSeen s l):=SeenW.keeps (F:=[]) HA (KeepsL.of_below (HBL.mono (Nat.le_refl _))) (fun _ _=>by simp) (fun _ _=>by simp);obtain⟨b,cc,e0,hg0,⟨s0,s1,s2⟩,_,hI⟩:=SeenW.three hS k (by rw [mSeen_length];exact hlt);rw [mSeen_at s l k hlt,←hm] at s0 s1 s2 hI;have hids:=unhide HL2 l[k] (List.getElem_mem hlt);have HE1:Hid (eSeen s (l.take (k+1))=m+2+(l[k]).ids.length):=by rw [List.take_succ_eq_append_getElem hlt,eSeen_snoc,←hm];rfl
 subst e0;clear hm hS;generalize l[k]=sk at *;obtain⟨fr,lo,ids⟩:=sk;unfold mSn at s0 s1 s2 hI;rw [mks_length mkInt 1 (m+2) ids ids.length (Nat.le_refl _)] at s2;dsimp only at s0 s1 s2 hI hids HE1;have HH:=hide (fun z (hz:z=((m+2:Nat):Int))=>heldIntZ b (I k) cc ids.length (m+2) z ids wr hz rfl (by omega) (by omega) hids hI);clear hI;go_wp2_with (go_at_call 28;refine(HH _ (by omega)).mono ?_;rintro e w1 ⟨rfl,hb5⟩;have HBL1:=hide (HBL.trans (hb5.mono HBL.size));clear hb5)
 go_roundw
 case rel=>exact⟨k+1,m+2+ids.length,by omega,by go_num,by go_num,HE1.symm,HBL1⟩
 case measure=>simp[intOf];omega):P:=h
theorem Sa28.Ka7(h:P:=by
 have hk':k < (mSk s l k).length:=by rw [mSk_length s l k hk];exact hlt
 obtain⟨b,cc,e0,hg0,⟨s0,s1,s2⟩,⟨f0,f1⟩,hI⟩:=SeenW.three HR k hk';have hpos:0 < l.length:=by omega
 have hgfp:g∈fp g l:=fp_mem hpos
 have HNE:Hid (∀x∈fpI I (mSk s l k),x≠g):=by
  rw [fpI_congr (mSk_length s l k hk) (fun i h1 h2=>mSk_len s l k hk i h1 h2)];exact fun x hx e=>HND.2.2 g hgfp x hx e.symm
 have HNI:Hid ((fpI I (mSk s l k)).Nodup):=by
  rw [fpI_congr (mSk_length s l k hk) (fun i h1 h2=>mSk_len s l k hk i h1 h2)];exact HND.2.1
 have hids:=unhide HL2 l[k] (List.getElem_mem hlt);have hat:=mSk_at s l k hlt;rw [hat] at s0 s1 s2 hI;have HPT:=hide (SeenW.put HR k hk' (m:Int) ((m:Int)+1) HNE);rw [hat] at HPT;have HSE:=hide (mSk_set s l k hlt);have HIK:=hide (fpI_mem (I:=I) hlt);subst e0;have HI:=hide hI;have HE1:Hid (eSeen s (l.take (k+1))=m+2+(l[k]).ids.length):=by rw [List.take_succ_eq_append_getElem hlt,eSeen_snoc,←hm];rfl
 have HMS:Hid (mSn (eSeen s (l.take k)) l[k]=⟨(m:Int),(m:Int)+1,mks mkInt 1 (m+2) (l[k]).ids (l[k]).ids.length⟩):=by rw [←hm];rfl
 clear hm hI hat;have hmz:(mSk s l k)[k]=l[k]:=mSk_at s l k hlt;have HMZ:=hide hmz;clear hmz;generalize l[k]=sk at *;obtain⟨fr,lo,ids⟩:=sk;dsimp only at s0 s1 s2 HI hids HPT HIK HE1 HMS;go_wp2_with fail;have hKK:KeepsL [g] wr ((wr.setCell ⟨g,k*3,none⟩ (.int .i64 (m:Int))).setCell ⟨g,k*3+1,none⟩ (.int .i64 ((m:Int)+1))):=(KeepsL.set _).trans (KeepsL.set _)
 have hI2:=HI.keeps hKK (fun x hx=>by
  have h1:=unhide HIK x hx
  have h2:=HND.2.2 g hgfp x h1
  simp
  exact fun e=>h2 e.symm)
 have hc2:((wr.setCell ⟨g,k*3,none⟩ (.int .i64 (m:Int))).setCell ⟨g,k*3+1,none⟩ (.int .i64 ((m:Int)+1))).cell? ⟨g,k*3+2,none⟩=some (.slice b ids.length cc):=(World.cell?_setCell_other _ _ _ _ (by simp)).trans ((World.cell?_setCell_other _ _ _ _ (by simp)).trans s2);have HC2:=hide hc2;have HKK:=hide hKK;refine(markIntZ b (I k) cc (m+2) _ ids _ (by omega) (by omega) (by omega) hids hI2).mono ?_;rintro e w2 ⟨rfl,hW2,hK2⟩
 have HFIN:Hid (SeenW w2 (some ⟨g,0,none⟩) g I (mSk s l (k+1))∧KeepsL (fp g l++fpI I l) w w2):=by
  have hk2:k < ((mSk s l k).set k ⟨(m:Int),(m:Int)+1,ids⟩).length:=by simpa using hk'
  have hcg:fpI I ((mSk s l k).set k ⟨(m:Int),(m:Int)+1,ids⟩)=fpI I (mSk s l k):=fpI_congr (by simp) (fun i h1 h2=>by
   by_cases hik:i=k
   ·subst hik;rw [List.getElem_set_self,unhide HMZ]
   ·rw [List.getElem_set_ne (by omega)])
  have hx:=SeenW.ids HPT k hk2 b cc (mks mkInt 1 (m+2) ids ids.length) (by rw [List.getElem_set_self];exact HC2) (by rw [List.getElem_set_self];exact mks_length mkInt 1 (m+2) ids ids.length (Nat.le_refl _)) hW2 (by rw [List.getElem_set_self];exact hK2) (by rw [hcg];exact HNE) (by rw [hcg];exact HNI);rw [List.getElem_set_self,List.set_set] at hx;dsimp only at hx;rw [←unhide HMS,unhide HSE] at hx;refine⟨hx,(HK.trans (HKK.mono (fun x hx=>?_))).trans (hK2.mono (fun x hx=>List.mem_append_right _ (HIK x hx)))⟩;have:x=g:=by simpa using hx
  rw [this];exact List.mem_append_left _ hgfp
 clear hW2 hK2 hc2 hKK hI2;go_wp2_with fail;go_roundw
 case rel=>exact⟨k+1,m+2+ids.length,by omega,by go_num,by go_num,HE1.symm,HFIN.1,HFIN.2⟩
 case measure=>simp[intOf];omega):P:=h
theorem Ya8(h:P:=by
 have HS:Hid ((s.data.toList.take (k+1)).all Mth.keyByte=((s.data.toList.take k).all Mth.keyByte&&Mth.keyByte s[k])):=by rw [Mth.take_snoc s k hlt];exact Mth.all_snoc _ _
 have hc:s[k].toNat < 256:=s[k].toNat_lt;exact Ka8):P:=h
theorem Sa29.Ka8(h:P:=by
 rcases Mth.byte_cases s[k] with h|h
 ·have HK:=hide (Mth.keyByte_yes _ h);rcases h with⟨h1,h2⟩|⟨h1,h2⟩
  all_goals
   go_wp2_with (go_at_call 33;first|(refine(l01In_yes _ _ _ _ ?_ ?_).mono ?_;omega;omega;rintro e w' ⟨rfl,rfl⟩)|(refine(l01In_no _ _ _ _ ?_).mono ?_;omega;rintro e w' ⟨rfl,rfl⟩))
   go_round
   case rel=>exact⟨k+1,by omega,by go_num,by rw [unhide HS,unhide HA,unhide HK];rfl⟩
   case measure=>simp[intOf];omega
 ·have HK:=hide (Mth.keyByte_no _ h);have HF:Hid (Mth.keyOk s.data.toList=false):=Mth.keyOk_bad _ (k+1) (by rw [unhide HS,unhide HA,unhide HK];rfl);rcases h with h1|⟨h1,h2⟩|h1
  all_goals
   go_wp2_with (go_at_call 33;first|(refine(l01In_yes _ _ _ _ ?_ ?_).mono ?_;omega;omega;rintro e w' ⟨rfl,rfl⟩)|(refine(l01In_no _ _ _ _ ?_).mono ?_;omega;rintro e w' ⟨rfl,rfl⟩))
   go_ret
   exact⟨ret_bool HF.symm,rfl⟩):P:=h
theorem Sa30.Ka8(h:P:=by
 rcases Mth.byte_cases s[k] with h|h
 ·have HK:=hide (Mth.keyByte_yes _ h);rcases h with⟨h1,h2⟩|⟨h1,h2⟩
  all_goals
   go_wp2_with (first|(go_at_call 83;first|(refine(small_yes _ _ ?_ ?_).mono ?_;omega;omega;rintro e w' ⟨rfl,rfl⟩)|(refine(small_no _ _ ?_).mono ?_;omega;rintro e w' ⟨rfl,rfl⟩))|(go_at_call 84;first|(refine(digit_yes _ _ ?_ ?_).mono ?_;omega;omega;rintro e w' ⟨rfl,rfl⟩)|(refine(digit_no _ _ ?_).mono ?_;omega;rintro e w' ⟨rfl,rfl⟩)))
   go_round
   case rel=>exact⟨k+1,by omega,by go_num,by rw [unhide HS,unhide HA,unhide HK];rfl⟩
   case measure=>simp[intOf];omega
 ·have HK:=hide (Mth.keyByte_no _ h);have HF:Hid (Mth.keyOk s.data.toList=false):=Mth.keyOk_bad _ (k+1) (by rw [unhide HS,unhide HA,unhide HK];rfl);rcases h with h1|⟨h1,h2⟩|h1
  all_goals
   go_wp2_with (first|(go_at_call 83;first|(refine(small_yes _ _ ?_ ?_).mono ?_;omega;omega;rintro e w' ⟨rfl,rfl⟩)|(refine(small_no _ _ ?_).mono ?_;omega;rintro e w' ⟨rfl,rfl⟩))|(go_at_call 84;first|(refine(digit_yes _ _ ?_ ?_).mono ?_;omega;omega;rintro e w' ⟨rfl,rfl⟩)|(refine(digit_no _ _ ?_).mono ?_;omega;rintro e w' ⟨rfl,rfl⟩)))
   go_ret
   exact⟨ret_bool HF.symm,rfl⟩):P:=h
theorem Ya9(h:P:=by
 go_wp2_with fail;refine(HPL _ HL0).mono ?_;rintro e w1 ⟨rfl,hb1⟩;have HB1:=hide (obj_step HB0 hb1);have HL1:=hide (HL0.trans (hb1.mono HL0.size));exact Ka9):P:=h
theorem Sa31.Ka9(h:P:=by
 clear hb1 c0 c1 c2 c3 c4 c5 c6 c7 c8 HPL;obtain⟨c0,c1,c2,c3,c4,c5,c6,c7,c8⟩:=nine HB1;cases h1:PL
 case' false=>
  have HV:=hide (show bb=true by rw [←unhide HBB];simp[h1])
  clear HBB h1
  go_wp2_with fail
  go_meet
  case rel=>exact⟨by rw [unhide HV],HB1,HL1⟩
 go_wp2_with fail;refine(HPU _ HL1).mono ?_;rintro e w2 ⟨rfl,hb1⟩;have HB2:=hide (obj_step HB1 hb1);have HL2:=hide (HL1.trans (hb1.mono HL1.size));clear hb1 c0 c1 c2 c3 c4 c5 c6 c7 c8 HPU;obtain⟨c0,c1,c2,c3,c4,c5,c6,c7,c8⟩:=nine HB2;cases h2:PS
 case' false=>
  have HV:=hide (show bb=true by rw [←unhide HBB];simp[h2])
  clear HBB h2
  go_wp2_with fail
  go_meet
  case rel=>exact⟨by rw [unhide HV],HB2,HL2⟩
 go_wp2_with fail;refine(HTO _ HL2).mono ?_;rintro e w3 ⟨rfl,hb1⟩;have HB3:=hide (obj_step HB2 hb1);have HL3:=hide (HL2.trans (hb1.mono HL2.size));clear hb1 c0 c1 c2 c3 c4 c5 c6 c7 c8 HTO;obtain⟨c0,c1,c2,c3,c4,c5,c6,c7,c8⟩:=nine HB3;cases h3:TD
 case' false=>
  have HV:=hide (show bb=true by rw [←unhide HBB];simp[h3])
  clear HBB h3
  go_wp2_with fail
  go_meet
  case rel=>exact⟨by rw [unhide HV],HB3,HL3⟩
 cases h4:smB next
 case' false=>
  have HV:=hide (show bb=true by rw [←unhide HBB];simp[h4])
  clear HBB h1 h2 h3
  go_wp2_with (go_at_call 48;refine(l04Some _ _ _ h4).mono ?_;rintro e w9 ⟨rfl,rfl⟩)
  go_meet
  case rel=>exact⟨by rw [unhide HV],HB3,HL3⟩
 by_cases h5:out.length≤40
 case' neg=>
  have hq:decide ((40:Int) < out.length)=true:=decide_eq_true (by omega)
  have HV:=hide (show bb=true by rw [←unhide HBB];simp[h5])
  clear HBB h1 h2 h3
  go_wp2_with (go_at_call 48;refine(l04Some _ _ _ h4).mono ?_;rintro e w9 ⟨rfl,rfl⟩)
  go_meet
  case rel=>exact⟨by rw [unhide HV],HB3,HL3⟩
 have hq:decide ((40:Int) < out.length)=false:=decide_eq_false (by omega);cases h6:amB old
 case' false=>
  have HAM:=hide (fun w1=>l01AmB old false w1 h6)
  have HV:=hide (show bb=true by rw [←unhide HBB];simp[h6])
  clear HBB h1 h2 h3
  go_wp2_with (first|(go_at_call 48;refine(l04Some _ _ _ h4).mono ?_;rintro e w9 ⟨rfl,rfl⟩)|(go_at_call 49;refine(HAM _).mono ?_;rintro e w9 ⟨rfl,rfl⟩))
  go_meet
  case rel=>exact⟨by rw [unhide HV],HB3,HL3⟩
 have HAM:=hide (fun w1=>l01AmB old true w1 h6);by_cases h7:reqs.length≤30
 case' neg=>
  have hq2:decide ((30:Int) < reqs.length)=true:=decide_eq_true (by omega)
  have HV:=hide (show bb=true by rw [←unhide HBB];simp[h7])
  clear HBB h1 h2 h3
  go_wp2_with (first|(go_at_call 48;refine(l04Some _ _ _ h4).mono ?_;rintro e w9 ⟨rfl,rfl⟩)|(go_at_call 49;refine(HAM _).mono ?_;rintro e w9 ⟨rfl,rfl⟩))
  go_meet
  case rel=>exact⟨by rw [unhide HV],HB3,HL3⟩
 have hq2:decide ((30:Int) < reqs.length)=false:=decide_eq_false (by omega);have HV:=hide (show bb=false by rw [←unhide HBB];simp[h1,h2,h3,h4,h5,h6,h7]);clear HBB h1 h2 h3;go_wp2_with (first|(go_at_call 48;refine(l04Some _ _ _ h4).mono ?_;rintro e w9 ⟨rfl,rfl⟩)|(go_at_call 49;refine(HAM _).mono ?_;rintro e w9 ⟨rfl,rfl⟩))
 go_meet
 case rel=>exact⟨by rw [unhide HV],HB3,HL3⟩):P:=h
theorem Sa32.Ka9(h:P:=by
 clear hb1 c0 c1 c2 c3 c4 c5 c6 c7 c8;obtain⟨c0,c1,c2,c3,c4,c5,c6,c7,c8⟩:=nine HB1;cases h1:PL
 case' false=>
  have HP:=hide (show TT=false by rw [unhide HD];simp[h1])
  clear h1 HD
  go_wp2_with fail
  go_ret
  exact⟨ret_bool HP.symm,HL1⟩
 go_wp2_with fail;refine(HPU _ HL1).mono ?_;rintro e w2 ⟨rfl,hb1⟩;have HB2:=hide (obj_step HB1 hb1);have HL2:=hide (HL1.trans (hb1.mono HL1.size));clear hb1 c0 c1 c2 c3 c4 c5 c6 c7 c8;obtain⟨c0,c1,c2,c3,c4,c5,c6,c7,c8⟩:=nine HB2;cases h2:PS
 case' false=>
  have HP:=hide (show TT=false by rw [unhide HD];simp[h2])
  clear h2 HD
  go_wp2_with fail
  go_ret
  exact⟨ret_bool HP.symm,HL2⟩
 cases h3:smB next
 case' false=>
  have HP:=hide (show TT=false by rw [unhide HD];simp[h3])
  have H3:=hide (fun w1=>isSomeAmount next false w1 h3)
  clear h3 HD
  go_wp2_with (go_at_call 54;refine(H3 _).mono ?_;rintro e w9 ⟨rfl,rfl⟩)
  go_ret
  exact⟨ret_bool HP.symm,HL2⟩
 have H3:=hide (fun w1=>isSomeAmount next true w1 h3);go_wp2_with (go_at_call 54;refine(H3 _).mono ?_;rintro e w9 ⟨rfl,rfl⟩)
 refine(HOT _ HL2 h1).mono ?_;rintro e w3 ⟨rfl,hb1⟩;have HB3:=hide (obj_step HB2 hb1);have HL3:=hide (HL2.trans (hb1.mono HL2.size));clear hb1 c0 c1 c2 c3 c4 c5 c6 c7 c8;obtain⟨c0,c1,c2,c3,c4,c5,c6,c7,c8⟩:=nine HB3;cases h4:OT
 case' false=>
  have HP:=hide (show TT=false by rw [unhide HD];simp[h4])
  clear h4 HD
  go_wp2_with fail
  go_ret
  exact⟨ret_bool HP.symm,HL3⟩
 go_wp2_with fail;refine(HSE _ HL3 h1).mono ?_;rintro e w4 ⟨rfl,hb1⟩;have HB4:=hide (obj_step HB3 hb1);have HL4:=hide (HL3.trans (hb1.mono HL3.size));clear hb1 c0 c1 c2 c3 c4 c5 c6 c7 c8;obtain⟨c0,c1,c2,c3,c4,c5,c6,c7,c8⟩:=nine HB4;cases h5:TD
 case' false=>
  have HP:=hide (show TT=false by rw [unhide HD];simp[h5])
  clear h5 HD
  go_wp2_with fail
  go_ret
  exact⟨ret_bool HP.symm,HL4⟩
 go_wp2_with fail;refine(HRE _ HL4).mono ?_;rintro e w5 ⟨rfl,hb1⟩;have HB5:=hide (obj_step HB4 hb1);have HL5:=hide (HL4.trans (hb1.mono HL4.size));clear hb1 c0 c1 c2 c3 c4 c5 c6 c7 c8;obtain⟨c0,c1,c2,c3,c4,c5,c6,c7,c8⟩:=nine HB5;have HP:=hide (show TT=RQ by rw [unhide HD];simp[h1,h2,h3,h4,h5]);clear h1 h2 h3 h4 h5 HD;go_wp2_with fail;go_ret;exact⟨ret_bool HP.symm,HL5⟩):P:=h
theorem Ya10(h:P:=by
 have HY:=hide (kidsTo_yes l n k hlt hkn);rw [hkn] at q0;have hnn:(n == n)=true:=by simp
 clear hkn;exact Ka10):P:=h
theorem Sa33.Ka10(h:P:=by
 go_wp2_with (at_builtin;refine wpList_append_own _ rfl _ _ 22 rfl W0.heap.size 3 i0 (.int .i64 0) 1 8 Try.underlying22 hi hz0 hz1 hz2 rfl (by decide) _ _ _ rfl (hown1.alloc _) ⟨w1.heap.size,0,none⟩ 1 1 [.int .i64 (k:Int)] rfl rfl ?c1 ?c2 ?c3 ?c4 ?c5 ?_)
 case c1=>exact cell_one_new _ _ _
 case c2=>intro u hu;simp at hu;subst hu;rfl
 case c3=>unfold maxLen;omega
 case c4=>omega
 case c5=>have:=HB1.size;simp;omega
 intro v' w2 hown' hgrow _;have hbel':=hide (GR.below_append HB1 HB1.size hown1 hgrow)
 have hown2:Hid (w2.ownsRow W0.heap.size 3 1 v' (kidsTo l n (k+1)).length (GR.flat encNum (kidsTo l n (k+1)))):=by
  exact Za46
 clear hown' hgrow hown1;go_wp2_with fail;go_roundw
 case rel=>exact⟨k+1,by omega,by omega,by go_num,hown2,hbel'⟩
 case measure=>simp[intOf];omega):P:=h
theorem Sa34.Ka10(h:P:=by
 go_wp2_with (at_builtin;refine wpList_append_own _ rfl _ _ 22 rfl w.heap.size 3 i0 (.int .i64 0) 1 8 Try.underlying22 hi hz0 hz1 hz2 rfl (by decide) _ _ _ rfl (hown.alloc _) ⟨wr.heap.size,0,none⟩ 1 1 [.int .i64 (k:Int)] rfl rfl ?c1 ?c2 ?c3 ?c4 ?c5 ?_)
 case c1=>exact cell_one_new _ _ _
 case c2=>intro u hu;simp at hu;subst hu;rfl
 case c3=>unfold maxLen;omega
 case c4=>omega
 case c5=>have:=HBL.size;simp;omega
 intro v' w2 hown' hgrow _;have hbel':=hide (GR.below_append HBL HBL.size hown hgrow)
 have hown2:Hid (w2.ownsRow w.heap.size 3 1 v' (kidsTo l n (k+1)).length (GR.flat encNum (kidsTo l n (k+1)))):=by
  exact Za46
 clear hown' hgrow hown;go_wp2_with fail;go_roundw
 case rel=>exact⟨k+1,by omega,by go_num,hown2,hbel'⟩
 case measure=>simp[intOf];omega):P:=h
theorem Ya11(h:P:=by
 rw [Mth.take_all s k hlt] at HA;have HF:Hid (Mth.keyOk s.data.toList=decide (1≤s.data.toList.length∧s.data.toList.length≤10)):=Mth.keyOk_all _ HA;rw [size_toList s] at HF;exact Ka11):P:=h
theorem Sa35.Ka11(h:P:=by
 by_cases hin:(1:Int)≤(s.size:Int)∧(s.size:Int)≤10
 ·obtain⟨hi1,hi2⟩:=hin;exact Za11
 ·exact Za11):P:=h
theorem Sa36.Ka11(h:P:=by
 go_wp2
 go_ret;exact⟨ret_bool (by rw [unhide HF];simp;omega),rfl⟩):P:=h
theorem Ya12(h:P:=by
 have hat:okAt l k=(puOk l[k]&&(k == 0|| !sle l[k].k (l.getD (k - 1) default).k)):=by unfold okAt;rw [getD_at l k hlt]
 exact Ka12):P:=h
theorem Sa37.Ka12(h:P:=by
 cases k with
 |zero=>
  obtain⟨g,off,rfl,hgw,c0,c1,c2,c3⟩:=PursesAt.four (GR.At.below HA HBL) 0 hlt
  simp only[Nat.zero_mul,Nat.add_zero] at c0 c1 c2 c3
  have hgt:decide ((0:Int) < ((0:Nat):Int))=false:=rfl
  have HOKA:=hide hat
  have HNX:=hide (all_range_succ (okAt l) 0)
  clear hat
  generalize l[0]=pu at *
  obtain⟨pk,pm,pf,ps⟩:=pu
  dsimp only at c0 c1 c2 c3 hks
  cases hkb:keyOk pk.data.toList
  ·have HB:=hide hkb;have HBAD:=hide (psOk_bad hlt (show okAt l 0=false by rw [unhide HOKA];simp[puOk,unhide HB]));clear HOKA HNX;have hkb':=unhide HB;exact Za0
  have hkb':=hkb
  by_cases h1:0≤pm∧pm≤1000000000
  case' neg=>
   have hA:amB pm=false:=decide_eq_false h1
   have g1:decide (Inn pm 0 1000000000)=false:=decide_eq_false h1
   have HBAD:=hide (psOk_bad hlt (show okAt l 0=false by rw [unhide HOKA];simp[puOk,hA]))
   clear HOKA HNX hA
   go_wp2_with fail
   refine wp_region_quiet_lit (by kernel_rfl) (by kernel_rfl) ?_
   repeat (first|go_big_quiet_step ((first|(go_at_call 50;exact qKey _ _ hks hkb' _ _)|(go_at_call_of 49 (IntKind.i64.wrap (pf+ps));exact qAm _ _ g4 _ _)|(go_at_call_of 49 (pf+ps);exact qAm _ _ g5 _ _)|(go_at_call_of 49 pm;exact qAm _ _ g1 _ _)|(go_at_call_of 49 pf;exact qAm _ _ g2 _ _)|(go_at_call_of 49 ps;exact qAm _ _ g3 _ _)))|quiet_step ((first|(go_at_call 50;exact qKey _ _ hks hkb' _ _)|(go_at_call_of 49 (IntKind.i64.wrap (pf+ps));exact qAm _ _ g4 _ _)|(go_at_call_of 49 (pf+ps);exact qAm _ _ g5 _ _)|(go_at_call_of 49 pm;exact qAm _ _ g1 _ _)|(go_at_call_of 49 pf;exact qAm _ _ g2 _ _)|(go_at_call_of 49 ps;exact qAm _ _ g3 _ _))))
   refine wpQuiet_nil ?_
   intro _ hw'
   obtain⟨nq,hw''⟩:=hw'
   subst hw''
   go_wp2_with fail
   go_ret
   exact⟨ret_bool HBAD.symm,(HBL.alloc HBL.size _).trans ⟨rfl,rfl,rfl,Nat.le_refl _,fun _ _=>rfl⟩⟩
  have g1:decide (Inn pm 0 1000000000)=true:=decide_eq_true h1
  have hA1:amB pm=true:=decide_eq_true h1
  by_cases h2:0≤pf∧pf≤1000000000
  case' neg=>
   have hA:amB pf=false:=decide_eq_false h2
   have g2:decide (Inn pf 0 1000000000)=false:=decide_eq_false h2
   have HBAD:=hide (psOk_bad hlt (show okAt l 0=false by rw [unhide HOKA];simp[puOk,hA]))
   clear HOKA HNX hA
   go_wp2_with fail
   refine wp_region_quiet_lit (by kernel_rfl) (by kernel_rfl) ?_
   repeat (first|go_big_quiet_step ((first|(go_at_call 50;exact qKey _ _ hks hkb' _ _)|(go_at_call_of 49 (IntKind.i64.wrap (pf+ps));exact qAm _ _ g4 _ _)|(go_at_call_of 49 (pf+ps);exact qAm _ _ g5 _ _)|(go_at_call_of 49 pm;exact qAm _ _ g1 _ _)|(go_at_call_of 49 pf;exact qAm _ _ g2 _ _)|(go_at_call_of 49 ps;exact qAm _ _ g3 _ _)))|quiet_step ((first|(go_at_call 50;exact qKey _ _ hks hkb' _ _)|(go_at_call_of 49 (IntKind.i64.wrap (pf+ps));exact qAm _ _ g4 _ _)|(go_at_call_of 49 (pf+ps);exact qAm _ _ g5 _ _)|(go_at_call_of 49 pm;exact qAm _ _ g1 _ _)|(go_at_call_of 49 pf;exact qAm _ _ g2 _ _)|(go_at_call_of 49 ps;exact qAm _ _ g3 _ _))))
   refine wpQuiet_nil ?_
   intro _ hw'
   obtain⟨nq,hw''⟩:=hw'
   subst hw''
   go_wp2_with fail
   go_ret
   exact⟨ret_bool HBAD.symm,(HBL.alloc HBL.size _).trans ⟨rfl,rfl,rfl,Nat.le_refl _,fun _ _=>rfl⟩⟩
  have g2:decide (Inn pf 0 1000000000)=true:=decide_eq_true h2
  have hA2:amB pf=true:=decide_eq_true h2
  by_cases h3:0≤ps∧ps≤1000000000
  case' neg=>
   have hA:amB ps=false:=decide_eq_false h3
   have g3:decide (Inn ps 0 1000000000)=false:=decide_eq_false h3
   have HBAD:=hide (psOk_bad hlt (show okAt l 0=false by rw [unhide HOKA];simp[puOk,hA]))
   clear HOKA HNX hA
   go_wp2_with fail
   refine wp_region_quiet_lit (by kernel_rfl) (by kernel_rfl) ?_
   repeat (first|go_big_quiet_step ((first|(go_at_call 50;exact qKey _ _ hks hkb' _ _)|(go_at_call_of 49 (IntKind.i64.wrap (pf+ps));exact qAm _ _ g4 _ _)|(go_at_call_of 49 (pf+ps);exact qAm _ _ g5 _ _)|(go_at_call_of 49 pm;exact qAm _ _ g1 _ _)|(go_at_call_of 49 pf;exact qAm _ _ g2 _ _)|(go_at_call_of 49 ps;exact qAm _ _ g3 _ _)))|quiet_step ((first|(go_at_call 50;exact qKey _ _ hks hkb' _ _)|(go_at_call_of 49 (IntKind.i64.wrap (pf+ps));exact qAm _ _ g4 _ _)|(go_at_call_of 49 (pf+ps);exact qAm _ _ g5 _ _)|(go_at_call_of 49 pm;exact qAm _ _ g1 _ _)|(go_at_call_of 49 pf;exact qAm _ _ g2 _ _)|(go_at_call_of 49 ps;exact qAm _ _ g3 _ _))))
   refine wpQuiet_nil ?_
   intro _ hw'
   obtain⟨nq,hw''⟩:=hw'
   subst hw''
   go_wp2_with fail
   go_ret
   exact⟨ret_bool HBAD.symm,(HBL.alloc HBL.size _).trans ⟨rfl,rfl,rfl,Nat.le_refl _,fun _ _=>rfl⟩⟩
  have g3:decide (Inn ps 0 1000000000)=true:=decide_eq_true h3
  have hA3:amB ps=true:=decide_eq_true h3
  have e4:IntKind.i64.wrap (pf+ps)=pf+ps:=IntWalk.i64_in _ ⟨by omega,by omega⟩
  by_cases h4:0≤(pf+ps)∧(pf+ps)≤1000000000
  case' neg=>
   have hA:amB (pf+ps)=false:=decide_eq_false h4
   have g4:decide (Inn (pf+ps) 0 1000000000)=false:=decide_eq_false h4
   have g5:=g4
   rw [←e4] at g4
   have HBAD:=hide (psOk_bad hlt (show okAt l 0=false by rw [unhide HOKA];simp[puOk,hA]))
   clear HOKA HNX hA
   go_wp2_with fail
   refine wp_region_quiet_lit (by kernel_rfl) (by kernel_rfl) ?_
   repeat (first|go_big_quiet_step ((first|(go_at_call 50;exact qKey _ _ hks hkb' _ _)|(go_at_call_of 49 (IntKind.i64.wrap (pf+ps));exact qAm _ _ g4 _ _)|(go_at_call_of 49 (pf+ps);exact qAm _ _ g5 _ _)|(go_at_call_of 49 pm;exact qAm _ _ g1 _ _)|(go_at_call_of 49 pf;exact qAm _ _ g2 _ _)|(go_at_call_of 49 ps;exact qAm _ _ g3 _ _)))|quiet_step ((first|(go_at_call 50;exact qKey _ _ hks hkb' _ _)|(go_at_call_of 49 (IntKind.i64.wrap (pf+ps));exact qAm _ _ g4 _ _)|(go_at_call_of 49 (pf+ps);exact qAm _ _ g5 _ _)|(go_at_call_of 49 pm;exact qAm _ _ g1 _ _)|(go_at_call_of 49 pf;exact qAm _ _ g2 _ _)|(go_at_call_of 49 ps;exact qAm _ _ g3 _ _))))
   refine wpQuiet_nil ?_
   intro _ hw'
   obtain⟨nq,hw''⟩:=hw'
   subst hw''
   go_wp2_with fail
   go_ret
   exact⟨ret_bool HBAD.symm,(HBL.alloc HBL.size _).trans ⟨rfl,rfl,rfl,Nat.le_refl _,fun _ _=>rfl⟩⟩
  have g4:decide (Inn (pf+ps) 0 1000000000)=true:=decide_eq_true h4
  have hA4:amB (pf+ps)=true:=decide_eq_true h4
  have g5:=g4
  rw [←e4] at g4
  have HGOOD:=hide (show okAt l 0=true by rw [unhide HOKA];simp[puOk,hkb,hA1,hA2,hA3,hA4])
  clear HOKA hA1 hA2 hA3 hA4
  go_wp2_with fail
  refine wp_region_quiet_lit (by kernel_rfl) (by kernel_rfl) ?_
  repeat (first|go_big_quiet_step ((first|(go_at_call 50;exact qKey _ _ hks hkb' _ _)|(go_at_call_of 49 (IntKind.i64.wrap (pf+ps));exact qAm _ _ g4 _ _)|(go_at_call_of 49 (pf+ps);exact qAm _ _ g5 _ _)|(go_at_call_of 49 pm;exact qAm _ _ g1 _ _)|(go_at_call_of 49 pf;exact qAm _ _ g2 _ _)|(go_at_call_of 49 ps;exact qAm _ _ g3 _ _)))|quiet_step ((first|(go_at_call 50;exact qKey _ _ hks hkb' _ _)|(go_at_call_of 49 (IntKind.i64.wrap (pf+ps));exact qAm _ _ g4 _ _)|(go_at_call_of 49 (pf+ps);exact qAm _ _ g5 _ _)|(go_at_call_of 49 pm;exact qAm _ _ g1 _ _)|(go_at_call_of 49 pf;exact qAm _ _ g2 _ _)|(go_at_call_of 49 ps;exact qAm _ _ g3 _ _))))
  refine wpQuiet_nil ?_
  intro _ hw'
  obtain⟨nq,hw''⟩:=hw'
  subst hw''
  go_wp2_with fail
  go_roundw
  case rel=>exact⟨0+1,by omega,by go_num,by rw [unhide HNX,unhide HALL,unhide HGOOD];rfl,(HBL.alloc HBL.size _).trans ⟨rfl,rfl,rfl,Nat.le_refl _,fun _ _=>rfl⟩⟩
  case measure=>simp[intOf];omega
 |succ j=>
  obtain⟨g,off,rfl,hgw,c0,c1,c2,c3⟩:=PursesAt.four (GR.At.below HA HBL) (j+1) hlt
  obtain⟨g',off',e',_,d0,_,_,_⟩:=PursesAt.four (GR.At.below HA HBL) j (by omega)
  have eg:g=g'∧off=off':=by injection e' with e';injection e' with e1 e2;exact⟨e1,e2⟩
  obtain⟨rfl,rfl⟩:=eg
  have hgd:l.getD j default=l[j]:=getD_at l j (by omega)
  rw [show j+1 - 1=j from rfl,hgd] at hat
  have hgt:decide ((0:Int) < ((j:Int)+1))=true:=decide_eq_true (by omega)
  clear e' hgd
  generalize l[j].k=q at *
  have HOKA:=hide hat
  have HNX:=hide (all_range_succ (okAt l) (j+1))
  clear hat
  generalize l[j+1]=pu at *
  obtain⟨pk,pm,pf,ps⟩:=pu
  dsimp only at c0 c1 c2 c3 hks
  cases hkb:keyOk pk.data.toList
  ·have HB:=hide hkb;have HBAD:=hide (psOk_bad hlt (show okAt l (j+1)=false by rw [unhide HOKA];simp[puOk,unhide HB]));clear HOKA HNX;have hkb':=unhide HB;exact Za0
  have hkb':=hkb
  cases hbl:Op.bytesLess pk.toList q.toList
  case' true=>
   have hsl:sle pk q=true:=by unfold sle;rw [hbl];rfl
   cases heq:pk.toList == q.toList
   ·exact Za41
   ·exact Za41
  cases heq:pk.toList == q.toList
  case' true=>
   have hsl:sle pk q=true:=by unfold sle;rw [hbl,heq];rfl
   have HBAD:=hide (psOk_bad hlt (show okAt l (j+1)=false by rw [unhide HOKA];simp[hsl]))
   clear HOKA HNX hsl
   go_wp2_with fail
   refine wp_region_quiet_lit (by kernel_rfl) (by kernel_rfl) ?_
   repeat (first|go_big_quiet_step ((first|(go_at_call 50;exact qKey _ _ hks hkb' _ _)|(go_at_call_of 49 (IntKind.i64.wrap (pf+ps));exact qAm _ _ g4 _ _)|(go_at_call_of 49 (pf+ps);exact qAm _ _ g5 _ _)|(go_at_call_of 49 pm;exact qAm _ _ g1 _ _)|(go_at_call_of 49 pf;exact qAm _ _ g2 _ _)|(go_at_call_of 49 ps;exact qAm _ _ g3 _ _)))|quiet_step ((first|(go_at_call 50;exact qKey _ _ hks hkb' _ _)|(go_at_call_of 49 (IntKind.i64.wrap (pf+ps));exact qAm _ _ g4 _ _)|(go_at_call_of 49 (pf+ps);exact qAm _ _ g5 _ _)|(go_at_call_of 49 pm;exact qAm _ _ g1 _ _)|(go_at_call_of 49 pf;exact qAm _ _ g2 _ _)|(go_at_call_of 49 ps;exact qAm _ _ g3 _ _))))
   refine wpQuiet_nil ?_
   intro _ hw'
   obtain⟨nq,hw''⟩:=hw'
   subst hw''
   go_wp2_with fail
   go_ret
   exact⟨ret_bool HBAD.symm,(HBL.alloc HBL.size _).trans ⟨rfl,rfl,rfl,Nat.le_refl _,fun _ _=>rfl⟩⟩
  have hsl:Hid (sle pk q=false):=by unfold sle;rw [hbl,heq];rfl
  by_cases h1:0≤pm∧pm≤1000000000
  case' neg=>
   have hA:amB pm=false:=decide_eq_false h1
   have g1:decide (Inn pm 0 1000000000)=false:=decide_eq_false h1
   have HBAD:=hide (psOk_bad hlt (show okAt l (j+1)=false by rw [unhide HOKA];simp[puOk,hA]))
   clear HOKA HNX hA
   go_wp2_with fail
   refine wp_region_quiet_lit (by kernel_rfl) (by kernel_rfl) ?_
   repeat (first|go_big_quiet_step ((first|(go_at_call 50;exact qKey _ _ hks hkb' _ _)|(go_at_call_of 49 (IntKind.i64.wrap (pf+ps));exact qAm _ _ g4 _ _)|(go_at_call_of 49 (pf+ps);exact qAm _ _ g5 _ _)|(go_at_call_of 49 pm;exact qAm _ _ g1 _ _)|(go_at_call_of 49 pf;exact qAm _ _ g2 _ _)|(go_at_call_of 49 ps;exact qAm _ _ g3 _ _)))|quiet_step ((first|(go_at_call 50;exact qKey _ _ hks hkb' _ _)|(go_at_call_of 49 (IntKind.i64.wrap (pf+ps));exact qAm _ _ g4 _ _)|(go_at_call_of 49 (pf+ps);exact qAm _ _ g5 _ _)|(go_at_call_of 49 pm;exact qAm _ _ g1 _ _)|(go_at_call_of 49 pf;exact qAm _ _ g2 _ _)|(go_at_call_of 49 ps;exact qAm _ _ g3 _ _))))
   refine wpQuiet_nil ?_
   intro _ hw'
   obtain⟨nq,hw''⟩:=hw'
   subst hw''
   go_wp2_with fail
   go_ret
   exact⟨ret_bool HBAD.symm,(HBL.alloc HBL.size _).trans ⟨rfl,rfl,rfl,Nat.le_refl _,fun _ _=>rfl⟩⟩
  have g1:decide (Inn pm 0 1000000000)=true:=decide_eq_true h1
  have hA1:amB pm=true:=decide_eq_true h1
  by_cases h2:0≤pf∧pf≤1000000000
  case' neg=>
   have hA:amB pf=false:=decide_eq_false h2
   have g2:decide (Inn pf 0 1000000000)=false:=decide_eq_false h2
   have HBAD:=hide (psOk_bad hlt (show okAt l (j+1)=false by rw [unhide HOKA];simp[puOk,hA]))
   clear HOKA HNX hA
   go_wp2_with fail
   refine wp_region_quiet_lit (by kernel_rfl) (by kernel_rfl) ?_
   repeat (first|go_big_quiet_step ((first|(go_at_call 50;exact qKey _ _ hks hkb' _ _)|(go_at_call_of 49 (IntKind.i64.wrap (pf+ps));exact qAm _ _ g4 _ _)|(go_at_call_of 49 (pf+ps);exact qAm _ _ g5 _ _)|(go_at_call_of 49 pm;exact qAm _ _ g1 _ _)|(go_at_call_of 49 pf;exact qAm _ _ g2 _ _)|(go_at_call_of 49 ps;exact qAm _ _ g3 _ _)))|quiet_step ((first|(go_at_call 50;exact qKey _ _ hks hkb' _ _)|(go_at_call_of 49 (IntKind.i64.wrap (pf+ps));exact qAm _ _ g4 _ _)|(go_at_call_of 49 (pf+ps);exact qAm _ _ g5 _ _)|(go_at_call_of 49 pm;exact qAm _ _ g1 _ _)|(go_at_call_of 49 pf;exact qAm _ _ g2 _ _)|(go_at_call_of 49 ps;exact qAm _ _ g3 _ _))))
   refine wpQuiet_nil ?_
   intro _ hw'
   obtain⟨nq,hw''⟩:=hw'
   subst hw''
   go_wp2_with fail
   go_ret
   exact⟨ret_bool HBAD.symm,(HBL.alloc HBL.size _).trans ⟨rfl,rfl,rfl,Nat.le_refl _,fun _ _=>rfl⟩⟩
  have g2:decide (Inn pf 0 1000000000)=true:=decide_eq_true h2
  have hA2:amB pf=true:=decide_eq_true h2
  by_cases h3:0≤ps∧ps≤1000000000
  case' neg=>
   have hA:amB ps=false:=decide_eq_false h3
   have g3:decide (Inn ps 0 1000000000)=false:=decide_eq_false h3
   have HBAD:=hide (psOk_bad hlt (show okAt l (j+1)=false by rw [unhide HOKA];simp[puOk,hA]))
   clear HOKA HNX hA
   go_wp2_with fail
   refine wp_region_quiet_lit (by kernel_rfl) (by kernel_rfl) ?_
   repeat (first|go_big_quiet_step ((first|(go_at_call 50;exact qKey _ _ hks hkb' _ _)|(go_at_call_of 49 (IntKind.i64.wrap (pf+ps));exact qAm _ _ g4 _ _)|(go_at_call_of 49 (pf+ps);exact qAm _ _ g5 _ _)|(go_at_call_of 49 pm;exact qAm _ _ g1 _ _)|(go_at_call_of 49 pf;exact qAm _ _ g2 _ _)|(go_at_call_of 49 ps;exact qAm _ _ g3 _ _)))|quiet_step ((first|(go_at_call 50;exact qKey _ _ hks hkb' _ _)|(go_at_call_of 49 (IntKind.i64.wrap (pf+ps));exact qAm _ _ g4 _ _)|(go_at_call_of 49 (pf+ps);exact qAm _ _ g5 _ _)|(go_at_call_of 49 pm;exact qAm _ _ g1 _ _)|(go_at_call_of 49 pf;exact qAm _ _ g2 _ _)|(go_at_call_of 49 ps;exact qAm _ _ g3 _ _))))
   refine wpQuiet_nil ?_
   intro _ hw'
   obtain⟨nq,hw''⟩:=hw'
   subst hw''
   go_wp2_with fail
   go_ret
   exact⟨ret_bool HBAD.symm,(HBL.alloc HBL.size _).trans ⟨rfl,rfl,rfl,Nat.le_refl _,fun _ _=>rfl⟩⟩
  have g3:decide (Inn ps 0 1000000000)=true:=decide_eq_true h3
  have hA3:amB ps=true:=decide_eq_true h3
  have e4:IntKind.i64.wrap (pf+ps)=pf+ps:=IntWalk.i64_in _ ⟨by omega,by omega⟩
  by_cases h4:0≤(pf+ps)∧(pf+ps)≤1000000000
  case' neg=>
   have hA:amB (pf+ps)=false:=decide_eq_false h4
   have g4:decide (Inn (pf+ps) 0 1000000000)=false:=decide_eq_false h4
   have g5:=g4
   rw [←e4] at g4
   have HBAD:=hide (psOk_bad hlt (show okAt l (j+1)=false by rw [unhide HOKA];simp[puOk,hA]))
   clear HOKA HNX hA
   go_wp2_with fail
   refine wp_region_quiet_lit (by kernel_rfl) (by kernel_rfl) ?_
   repeat (first|go_big_quiet_step ((first|(go_at_call 50;exact qKey _ _ hks hkb' _ _)|(go_at_call_of 49 (IntKind.i64.wrap (pf+ps));exact qAm _ _ g4 _ _)|(go_at_call_of 49 (pf+ps);exact qAm _ _ g5 _ _)|(go_at_call_of 49 pm;exact qAm _ _ g1 _ _)|(go_at_call_of 49 pf;exact qAm _ _ g2 _ _)|(go_at_call_of 49 ps;exact qAm _ _ g3 _ _)))|quiet_step ((first|(go_at_call 50;exact qKey _ _ hks hkb' _ _)|(go_at_call_of 49 (IntKind.i64.wrap (pf+ps));exact qAm _ _ g4 _ _)|(go_at_call_of 49 (pf+ps);exact qAm _ _ g5 _ _)|(go_at_call_of 49 pm;exact qAm _ _ g1 _ _)|(go_at_call_of 49 pf;exact qAm _ _ g2 _ _)|(go_at_call_of 49 ps;exact qAm _ _ g3 _ _))))
   refine wpQuiet_nil ?_
   intro _ hw'
   obtain⟨nq,hw''⟩:=hw'
   subst hw''
   go_wp2_with fail
   go_ret
   exact⟨ret_bool HBAD.symm,(HBL.alloc HBL.size _).trans ⟨rfl,rfl,rfl,Nat.le_refl _,fun _ _=>rfl⟩⟩
  have g4:decide (Inn (pf+ps) 0 1000000000)=true:=decide_eq_true h4
  have hA4:amB (pf+ps)=true:=decide_eq_true h4
  have g5:=g4
  rw [←e4] at g4
  have HGOOD:=hide (show okAt l (j+1)=true by rw [unhide HOKA];simp[puOk,hkb,hA1,hA2,hA3,hA4,unhide hsl])
  clear HOKA hA1 hA2 hA3 hA4
  go_wp2_with fail
  refine wp_region_quiet_lit (by kernel_rfl) (by kernel_rfl) ?_
  repeat (first|go_big_quiet_step ((first|(go_at_call 50;exact qKey _ _ hks hkb' _ _)|(go_at_call_of 49 (IntKind.i64.wrap (pf+ps));exact qAm _ _ g4 _ _)|(go_at_call_of 49 (pf+ps);exact qAm _ _ g5 _ _)|(go_at_call_of 49 pm;exact qAm _ _ g1 _ _)|(go_at_call_of 49 pf;exact qAm _ _ g2 _ _)|(go_at_call_of 49 ps;exact qAm _ _ g3 _ _)))|quiet_step ((first|(go_at_call 50;exact qKey _ _ hks hkb' _ _)|(go_at_call_of 49 (IntKind.i64.wrap (pf+ps));exact qAm _ _ g4 _ _)|(go_at_call_of 49 (pf+ps);exact qAm _ _ g5 _ _)|(go_at_call_of 49 pm;exact qAm _ _ g1 _ _)|(go_at_call_of 49 pf;exact qAm _ _ g2 _ _)|(go_at_call_of 49 ps;exact qAm _ _ g3 _ _))))
  refine wpQuiet_nil ?_
  intro _ hw'
  obtain⟨nq,hw''⟩:=hw'
  subst hw''
  go_wp2_with fail
  go_roundw
  case rel=>exact⟨(j+1)+1,by omega,by go_num,by rw [unhide HNX,unhide HALL,unhide HGOOD];rfl,(HBL.alloc HBL.size _).trans ⟨rfl,rfl,rfl,Nat.le_refl _,fun _ _=>rfl⟩⟩
  case measure=>simp[intOf];omega):P:=h
theorem Sa38.Ka12(h:P:=by
 cases k with
 |zero=>
  obtain⟨g,off,rfl,hgw,c0,c1,c2,c3⟩:=PursesAt.four (GR.At.below HA HBL) 0 hlt
  simp only[Nat.zero_mul,Nat.add_zero] at c0 c1 c2 c3
  have hgt:decide ((0:Int) < ((0:Nat):Int))=false:=rfl
  have HOKA:=hide hat
  have HNX:=hide (all_range_succ (okAt l) 0)
  clear hat
  generalize l[0]=pu at *
  cases hpo:puOk pu
  ·have HO:=hide (fun w1=>implPuOkB pu false w1 hpo);have HBAD:=hide (psOk_bad hlt (show okAt l 0=false by rw [unhide HOKA,hpo];rfl));clear HOKA HNX hpo;obtain⟨pk,pm,pf,ps⟩:=pu;dsimp only at c0 c1 c2 c3;open Sa8 in exact Ya2
  ·have HO:=hide (fun w1=>implPuOkB pu true w1 hpo);have HGOOD:=hide (show okAt l 0=true by rw [unhide HOKA,hpo];rfl);clear HOKA hpo;obtain⟨pk,pm,pf,ps⟩:=pu;dsimp only at c0 c1 c2 c3;open Sa7 in exact Ya2
 |succ j=>
  have hlt2:j < l.length:=by omega
  obtain⟨g,off,rfl,hgw,c0,c1,c2,c3⟩:=PursesAt.four (GR.At.below HA HBL) (j+1) hlt
  obtain⟨g2,off2,e2,hgw2,d0,d1,d2,d3⟩:=PursesAt.four (GR.At.below HA HBL) j hlt2
  have e3:g=g2:=by injection e2 with e2;injection e2 with e2 e4
  have e4:off=off2:=by injection e2 with e2;injection e2 with e2 e4
  subst e3 e4
  clear e2 hgw2 d1 d2 d3
  have hgt:decide ((0:Int) < ((j+1:Nat):Int))=true:=decide_eq_true (by omega)
  have ej:IntKind.i64.wrap (((j+1:Nat):Int) - 1)=(j:Int):=by rw [IntWalk.i64_in _ ⟨by omega,by omega⟩];omega
  rw [show j+1 - 1=j by omega,getD_at l j hlt2] at hat
  have HOKA:=hide hat
  have HNX:=hide (all_range_succ (okAt l) (j+1))
  clear hat
  generalize l[j+1]=pu at *
  generalize l[j]=pq at *
  obtain⟨q,qm,qf,qs⟩:=pq
  dsimp only at d0
  cases hpo:puOk pu
  ·have HO:=hide (fun w1=>implPuOkB pu false w1 hpo);have HBAD:=hide (psOk_bad hlt (show okAt l (j+1)=false by rw [unhide HOKA,hpo];rfl));clear HOKA HNX hpo;obtain⟨pk,pm,pf,ps⟩:=pu;dsimp only at c0 c1 c2 c3;open Sa6 in exact Ya2
  ·have HO:=hide (fun w1=>implPuOkB pu true w1 hpo);cases hsl:Op.bytesLess q.toList pu.k.toList
   ·have HBAD:=hide (psOk_bad hlt (show okAt l (j+1)=false by rw [unhide HOKA,hpo];dsimp only;rw [←less_sle,hsl];simp));clear HOKA HNX hpo;obtain⟨pk,pm,pf,ps⟩:=pu;dsimp only at c0 c1 c2 c3 hsl;open Sa5 in exact Ya2
   ·have HGOOD:=hide (show okAt l (j+1)=true by rw [unhide HOKA,hpo];dsimp only;rw [←less_sle,hsl];simp);clear HOKA hpo;obtain⟨pk,pm,pf,ps⟩:=pu;dsimp only at c0 c1 c2 c3 hsl;open Sa4 in exact Ya2):P:=h
theorem Ya13(h:P:=by
 refine wp_region_quiet_below (by kernel_rfl) (by kernel_rfl) ?_;repeat (first|go_big_quiet_step (exact cO _ _)|quiet_step (exact cO _ _))
 refine wpQuiet_nil ?_;intro _ hw';obtain⟨⟨dq,osq⟩,hw''⟩:=hw';subst hw'';have HBL5:=hide (HBV.trans ((below_regrown _ dq osq).mono HBV.size));exact Ka13):P:=h
theorem Sa39.Ka13(h:P:=by
 clear y0 y1 y2 y3 cO
 all_goals
  go_wp2_with fail
  go_ret
  exact⟨ret_bool HBAD.symm,HBL5⟩):P:=h
theorem Sa40.Ka13(h:P:=by
 clear y0 y1 y2 y3 cO
 all_goals
  go_wp2_with fail
  go_roundw
  case rel=>exact⟨0+1,by omega,by go_num,by rw [unhide HNX,unhide HALL,unhide HGOOD];rfl,HBL5⟩
  case measure=>simp[intOf];omega):P:=h
theorem Sa41.Ka13(h:P:=by
 clear y0 y1 y2 y3 y4 cO
 all_goals
  go_wp2_with fail
  go_roundw
  case rel=>exact⟨(j+1)+1,by omega,by go_num,by rw [unhide HNX,unhide HALL,unhide HGOOD];rfl,HBL5⟩
  case measure=>simp[intOf];omega):P:=h
theorem Sa42.Ka13(h:P:=by
 clear y0 y1 y2 y3 y4 cO
 all_goals
  go_wp2_with fail
  go_ret
  exact⟨ret_bool HBAD.symm,HBL5⟩):P:=h
theorem Ya14(h:P:=by
 cases h1:NN fr
 case' false=>
  have cN:=unhide HNR fr false W1 HKI h1
  have HV:=hide (show bb=true by rw [←unhide HBB];simp[h1])
  clear HBB
  refine wp_region_quiet_below (by kernel_rfl) (by kernel_rfl) ?_
  repeat (first|go_big_quiet_step ((first|(go_at_call 34;exact cN _ _)|(go_at_call 48;exact cS _ _)))|quiet_step ((first|(go_at_call 34;exact cN _ _)|(go_at_call 48;exact cS _ _))))
  refine wpQuiet_nil ?_
  intro _ hw'
  obtain⟨⟨dq,osq⟩,hw''⟩:=hw'
  subst hw''
  go_wp2_with fail
  go_meet
  case rel=>exact Za2
 have cN:=unhide HNR fr true W1 HKI h1;exact Ka14):P:=h
theorem Sa43.Ka14(h:P:=by
 by_cases h2:y < fr
 case' neg=>
  have hy:decide (fr≤y)=true:=decide_eq_true (by omega)
  have HV:=hide (show bb=true by rw [←unhide HBB];simp[h2])
  clear HBB
  refine wp_region_quiet_below (by kernel_rfl) (by kernel_rfl) ?_
  repeat (first|go_big_quiet_step ((first|(go_at_call 34;exact cN _ _)|(go_at_call 48;exact cS _ _)))|quiet_step ((first|(go_at_call 34;exact cN _ _)|(go_at_call 48;exact cS _ _))))
  refine wpQuiet_nil ?_
  intro _ hw'
  obtain⟨⟨dq,osq⟩,hw''⟩:=hw'
  subst hw''
  go_wp2_with fail
  go_meet
  case rel=>exact Za2
 have hy:decide (fr≤y)=false:=decide_eq_false (by omega);open Sa9 in exact Ya3):P:=h
theorem Sa44.Ka14(h:P:=by
 open Sa10 in exact Ya3):P:=h
theorem Ya15(h:P:=by
 refine wp_at (fun W1 hW1=>?_);have HW1:Hid (W1.heap[wr.heap.size]?=some (.cells #[.int .i64 si,.string sx,.int .i64 sn,.int .i64 st] 71 (0,0))):=by rw [hW1];exact heap_alloc_new _ _
 have hbw:Below wr.heap.size wr W1:=by rw [hW1];exact below_one wr _
 have HBK1:=hide (obj_step HBK hbw);have HBL1:=hide (HBL.trans (hbw.mono HBL.size));exact Ka15):P:=h
theorem Sa45.Ka15(h:P:=by
 have hgw1:=hbw.size
 have HPK1:Hid ((k=0∧pv=true)∨∃(j:Nat) (y:Int),k=j+1∧pv=decide (y < si)∧W1.cell? ⟨g,off+j*4,none⟩=some (.int .i64 y)):=by
  exact Za27
 clear hW1 hbw q0 q1 q2 q3 c0 c1 c2 c3 c4 c5 c6 c7 c8 HPK HBK;obtain⟨d0,d1,d2,d3⟩:=fourC HW1;open Sa80 in exact Ya24):P:=h
theorem Sa46.Ka15(h:P:=by
 clear hW1 hbw q0 q1 q2 q3 HBK;obtain⟨d0,d1,d2,d3⟩:=fourC HW1;go_cut [56] (fun r wx=>r= .bool bb∧wx=W1)
 case first=>
  by_cases g1:y < si
  case' neg=>
   have hb1:decide (si≤y)=true:=decide_eq_true (by omega)
   have HV:=hide (show bb=true by rw [←unhide HBB];simp[g1])
   clear HBB HVB
   go_wp2_with (fail)
   go_meet
   case rel=>exact⟨by rw [unhide HV],rfl⟩
  have hb1:decide (si≤y)=false:=decide_eq_false (by omega);cases g2:amB si
  case' false=>
   have Hg2:=hide (fun w1=>implAmB si false w1 g2)
   have HV:=hide (show bb=true by rw [←unhide HBB];simp[g2])
   clear HBB HVB
   go_wp2_with (first|(go_at_call 70;refine(Hg2 _).mono ?_;rintro e w9 ⟨rfl,rfl⟩))
   go_meet
   case rel=>exact⟨by rw [unhide HV],rfl⟩
  have Hg2:=hide (fun w1=>implAmB si true w1 g2);cases g3:keyOk sx.data.toList
  case' false=>
   have Hg3:=hide (fun w1=>implKeyR sx false w1 g3)
   have HV:=hide (show bb=true by rw [←unhide HBB];simp[g3])
   clear HBB HVB
   go_wp2_with (first|(go_at_call 70;refine(Hg2 _).mono ?_;rintro e w9 ⟨rfl,rfl⟩)|(go_at_call 68;refine(Hg3 _).mono ?_;rintro e w9 ⟨rfl,rfl⟩))
   go_meet
   case rel=>exact⟨by rw [unhide HV],rfl⟩
  have Hg3:=hide (fun w1=>implKeyR sx true w1 g3);cases g4:smB sn
  case' false=>
   have Hg4:=hide (fun w1=>isSomeAmount sn false w1 g4)
   have HV:=hide (show bb=true by rw [←unhide HBB];simp[g4])
   clear HBB HVB
   go_wp2_with (first|(go_at_call 70;refine(Hg2 _).mono ?_;rintro e w9 ⟨rfl,rfl⟩)|(go_at_call 68;refine(Hg3 _).mono ?_;rintro e w9 ⟨rfl,rfl⟩)|(go_at_call 54;refine(Hg4 _).mono ?_;rintro e w9 ⟨rfl,rfl⟩))
   go_meet
   case rel=>exact⟨by rw [unhide HV],rfl⟩
  have Hg4:=hide (fun w1=>isSomeAmount sn true w1 g4);by_cases g5:0≤st
  case' neg=>
   have hb5:decide (st < 0)=true:=decide_eq_true (by omega)
   have HV:=hide (show bb=true by rw [←unhide HBB];simp[g5])
   clear HBB HVB
   go_wp2_with (first|(go_at_call 70;refine(Hg2 _).mono ?_;rintro e w9 ⟨rfl,rfl⟩)|(go_at_call 68;refine(Hg3 _).mono ?_;rintro e w9 ⟨rfl,rfl⟩)|(go_at_call 54;refine(Hg4 _).mono ?_;rintro e w9 ⟨rfl,rfl⟩))
   go_meet
   case rel=>exact⟨by rw [unhide HV],rfl⟩
  have hb5:decide (st < 0)=false:=decide_eq_false (by omega);by_cases g6:st≤2
  case' neg=>
   have hb6:decide (2 < st)=true:=decide_eq_true (by omega)
   have HV:=hide (show bb=true by rw [←unhide HBB];simp[g6])
   clear HBB HVB
   go_wp2_with (first|(go_at_call 70;refine(Hg2 _).mono ?_;rintro e w9 ⟨rfl,rfl⟩)|(go_at_call 68;refine(Hg3 _).mono ?_;rintro e w9 ⟨rfl,rfl⟩)|(go_at_call 54;refine(Hg4 _).mono ?_;rintro e w9 ⟨rfl,rfl⟩))
   go_meet
   case rel=>exact⟨by rw [unhide HV],rfl⟩
  have hb6:decide (2 < st)=false:=decide_eq_false (by omega);have HV:=hide (show bb=false by rw [←unhide HBB];simp[g1,g2,g3,g4,g5,g6]);clear HBB HVB;go_wp2_with (first|(go_at_call 70;refine(Hg2 _).mono ?_;rintro e w9 ⟨rfl,rfl⟩)|(go_at_call 68;refine(Hg3 _).mono ?_;rintro e w9 ⟨rfl,rfl⟩)|(go_at_call 54;refine(Hg4 _).mono ?_;rintro e w9 ⟨rfl,rfl⟩))
  go_meet
  case rel=>exact⟨by rw [unhide HV],rfl⟩
 case rest=>
  obtain⟨rfl,rfl⟩:=hcut;clear HBB;cases hbv:bb
  ·have HG:=hide (show chk KB RR (reqs.take (k+1))=true by rw [unhide HVB,hbv];rfl);subst hbv;clear HBAD HVB;go_wp2_with fail;go_roundw
   case rel=>exact⟨k+1,si,by omega,by go_num,rfl,HLN.symm,HG,HBK1,HBL1⟩
   case measure=>simp[intOf];omega
  ·have HP:=hide (HBAD (by rw [unhide HVB,hbv];rfl));subst hbv;clear HBAD HVB;go_wp2_with fail;go_ret;exact⟨ret_bool HP.symm,HBL1⟩):P:=h
theorem Ya16(h:P:=by
 obtain⟨k,m,hk,rfl,rfl,hm,hR,hkp⟩:=hrel;have HM:=hide hm;have HR:=hide hR;have HK:=hide hkp;clear hR hkp;exact Ka16):P:=h
theorem Sa47.Ka16(h:P:=by
 by_cases hlt:k < l.length
 ·have hml:=mks_length mkInt 1 s l k hk;have hk':k < (mks mkInt 1 s l k).length:=by rw [hml];exact hlt
  have hm0:0 < m:=by omega
  have hm1:(m:Int)≤92233720368547758:=by omega
  obtain⟨e0,hg0,s0,f0⟩:=GR.W.one HR k hk';subst e0;have HML:=hide hml;clear hm hml;go_wp2_with fail;go_roundw
  case rel=>
   have hpos:0 < l.length:=by omega
   have h5:=GR.W.set encNum_length HR k (mkInt m) (by rw [unhide HML];exact hlt);have hmk:mkInt m=mkInt (s+1*k):=by rw [unhide HM]
   rw [hmk,mks_set mkInt 1 s l k hlt,←hmk,Nat.mul_one] at h5;exact⟨k+1,m+1,by omega,by go_num,by go_num,by have:=unhide HM;omega,h5,HK.trans (fp_keeps (KeepsL.set _) hpos)⟩
  case measure=>simp[intOf];omega
 ·exact Za6):P:=h
theorem Sa48.Ka16(h:P:=by
 by_cases hlt:k < l.length
 ·have hml:=mks_length mkReq 4 s l k hk;have hk':k < (mks mkReq 4 s l k).length:=by rw [hml];exact hlt
  have hm0:0 < m:=by omega
  have hm1:(m:Int)≤92233720368547758:=by omega
  obtain⟨e0,hg0,⟨s0,s1,s2,s3⟩,f0,f1,f2,f3⟩:=GR.W.fourReq HR k hk';subst e0;have HMT:=hide (fun z w1 (hz:z=((m+1:Nat):Int))=>markTextI (m+1) z w1 hz (by omega) (by omega));open Sa24 in exact Ya6
 ·exact Za6):P:=h
theorem Sa49.Ka16(h:P:=by
 by_cases hlt:k < l.length
 ·have hml:=mks_length mkSent 4 s l k hk;have hk':k < (mks mkSent 4 s l k).length:=by rw [hml];exact hlt
  have hm0:0 < m:=by omega
  have hm1:(m:Int)≤92233720368547758:=by omega
  obtain⟨e0,hg0,⟨s0,s1,s2,s3⟩,f0,f1,f2,f3⟩:=GR.W.fourSent HR k hk';subst e0;have HMT:=hide (fun z w1 (hz:z=((m+2:Nat):Int))=>markTextI (m+2) z w1 hz (by omega) (by omega));open Sa25 in exact Ya6
 ·exact Za6):P:=h
theorem Sa50.Ka16(h:P:=by
 by_cases hlt:k < l.length
 ·have hml:=mks_length mkPurse 4 s l k hk;have hk':k < (mks mkPurse 4 s l k).length:=by rw [hml];exact hlt
  have hm0:0 < m:=by omega
  have hm1:(m:Int)≤92233720368547758:=by omega
  obtain⟨e0,hg0,⟨s0,s1,s2,s3⟩,f0,f1,f2,f3⟩:=GR.W.fourPurse HR k hk';subst e0;have HMT:=hide (fun z w1 (hz:z=((m+0:Nat):Int))=>markTextI (m+0) z w1 hz (by omega) (by omega));open Sa26 in exact Ya6
 ·exact Za6):P:=h
theorem Sa51.Ka16(h:P:=by
 by_cases hlt:k < l.length
 ·open Sa28 in exact Ya7
 ·open Sa19 in exact Ya5):P:=h
theorem Ya17(h:P:=by
 obtain⟨k,m,hk,rfl,rfl,hm,hbel⟩:=hrel;have HM:=hide hm;have HBL:=hide hbel;clear hbel;exact Ka17):P:=h
theorem Sa52.Ka17(h:P:=by
 by_cases hlt:k < l.length
 ·have hm0:0 < m:=by omega
  have hm1:(m:Int)≤92233720368547758:=by omega
  obtain⟨e0,hgl,s0,_⟩:=GR.W.one (GR.W.below HA HBL) k (by rw [mks_length mkInt 1 s l l.length (Nat.le_refl _)];exact hlt);rw [mks_at mkInt 1 s l l.length k hlt (Nat.le_refl _),←hm] at s0;dsimp only[mkInt] at s0;subst e0;clear hm;go_wp2_with fail;first|go_quiet (fail)|skip
  go_wp2_with fail;go_roundw
  case rel=>exact⟨k+1,m+1,by omega,by go_num,by go_num,by have:=unhide HM;omega,HBL.trans ⟨rfl,rfl,rfl,Nat.le_refl _,fun _ _=>rfl⟩⟩
  case measure=>simp[intOf];omega
 ·exact Za7):P:=h
theorem Sa53.Ka17(h:P:=by
 by_cases hlt:k < l.length
 ·have hm0:0 < m:=by omega
  have hm1:(m:Int)≤92233720368547758:=by omega
  obtain⟨e0,hgl,⟨s0,s1,s2,s3⟩,_⟩:=GR.W.fourReq (GR.W.below HA HBL) k (by rw [mks_length mkReq 4 s l l.length (Nat.le_refl _)];exact hlt);rw [mks_at mkReq 4 s l l.length k hlt (Nat.le_refl _),←hm] at s0 s1 s2 s3;dsimp only[mkReq] at s0 s1 s2 s3;subst e0;have HMT:=hide (fun z w1 (hz:z=((m+1:Nat):Int))=>markTextI (m+1) z w1 hz (by omega) (by omega));exact Za1
 ·exact Za7):P:=h
theorem Sa54.Ka17(h:P:=by
 by_cases hlt:k < l.length
 ·have hm0:0 < m:=by omega
  have hm1:(m:Int)≤92233720368547758:=by omega
  obtain⟨e0,hgl,⟨s0,s1,s2,s3⟩,_⟩:=GR.W.fourSent (GR.W.below HA HBL) k (by rw [mks_length mkSent 4 s l l.length (Nat.le_refl _)];exact hlt);rw [mks_at mkSent 4 s l l.length k hlt (Nat.le_refl _),←hm] at s0 s1 s2 s3;dsimp only[mkSent] at s0 s1 s2 s3;subst e0;have HMT:=hide (fun z w1 (hz:z=((m+2:Nat):Int))=>markTextI (m+2) z w1 hz (by omega) (by omega));exact Za1
 ·exact Za7):P:=h
theorem Sa55.Ka17(h:P:=by
 by_cases hlt:k < l.length
 ·have hm0:0 < m:=by omega
  have hm1:(m:Int)≤92233720368547758:=by omega
  obtain⟨e0,hgl,⟨s0,s1,s2,s3⟩,_⟩:=GR.W.fourPurse (GR.W.below HA HBL) k (by rw [mks_length mkPurse 4 s l l.length (Nat.le_refl _)];exact hlt);rw [mks_at mkPurse 4 s l l.length k hlt (Nat.le_refl _),←hm] at s0 s1 s2 s3;dsimp only[mkPurse] at s0 s1 s2 s3;subst e0;have HMT:=hide (fun z w1 (hz:z=((m+0:Nat):Int))=>markTextI (m+0) z w1 hz (by omega) (by omega));exact Za1
 ·exact Za7):P:=h
theorem Sa56.Ka17(h:P:=by
 by_cases hlt:k < l.length
 ·open Sa27 in exact Ya7
 ·open Sa18 in exact Ya5):P:=h
theorem Ya18(h:P:=by
 have e1:(m:Int)+1+1=m+2:=by omega
 have e3:(m:Int)+2+1=m+3:=by omega
 (try simp only[e1,e3] at HB1 ⊢)
 exact Ka18):P:=h
theorem Sa57.Ka18(h:P:=by
 have hB:=GR.C.below h0 HB1;have h1:=GR.C.set hB (k*4) (.string (mkPurse m).k);have h2:=GR.C.set h1 (k*4+1) (.int .i64 (mkPurse m).m);have h3:=GR.C.set h2 (k*4+2) (.int .i64 (mkPurse m).f);have h4:=GR.C.set h3 (k*4+3) (.int .i64 (mkPurse m).s);have hf:=GR.flat_set encP 4 encP_length (mks mkPurse 4 s l k) k (mkPurse m) (by rw [unhide HML];exact hlt);have h5:=GR.C.toW (enc:=encP) (l:=(mks mkPurse 4 s l k).set k (mkPurse m)) encP_length (by omega) (by rw [←hf];exact h4);have hmk:mkPurse m=mkPurse (s+4*k):=by rw [unhide HM]
 rw [hmk,mks_set mkPurse 4 s l k hlt,←hmk] at h5;refine⟨k+1,m+4,by omega,by go_num,by go_num,by have:=unhide HM;omega,h5,?_⟩;exact(((((HK.trans (KeepsL.of_below HB1)).trans (fp_keeps (KeepsL.set _) hpos)).trans (fp_keeps (KeepsL.set _) hpos)).trans (fp_keeps (KeepsL.set _) hpos)).trans (fp_keeps (KeepsL.set _) hpos))):P:=h
theorem Sa58.Ka18(h:P:=by
 have h1:=GR.C.set h0 (k*4) (.int .i64 (mkSent m).i);have h2:=GR.C.set h1 (k*4+1) (.int .i64 (mkSent m).t);have hB:=GR.C.below h2 HB1;have h3:=GR.C.set hB (k*4+2) (.string (mkSent m).k);have h4:=GR.C.set h3 (k*4+3) (.int .i64 (mkSent m).n);have hf:=GR.flat_set encSnt 4 encSnt_length (mks mkSent 4 s l k) k (mkSent m) (by rw [unhide HML];exact hlt);have h5:=GR.C.toW (enc:=encSnt) (l:=(mks mkSent 4 s l k).set k (mkSent m)) encSnt_length (by omega) (by rw [←hf];exact h4);have hmk:mkSent m=mkSent (s+4*k):=by rw [unhide HM]
 rw [hmk,mks_set mkSent 4 s l k hlt,←hmk] at h5;refine⟨k+1,m+4,by omega,by go_num,by go_num,by have:=unhide HM;omega,h5,?_⟩;exact(((((HK.trans (fp_keeps (KeepsL.set _) hpos)).trans (fp_keeps (KeepsL.set _) hpos)).trans (KeepsL.of_below HB1)).trans (fp_keeps (KeepsL.set _) hpos)).trans (fp_keeps (KeepsL.set _) hpos))):P:=h
theorem Sa59.Ka18(h:P:=by
 have h1:=GR.C.set h0 (k*4) (.int .i64 (mkReq m).no);have hB:=GR.C.below h1 HB1;have h2:=GR.C.set hB (k*4+1) (.string (mkReq m).k);have h3:=GR.C.set h2 (k*4+2) (.int .i64 (mkReq m).n);have h4:=GR.C.set h3 (k*4+3) (.int .i64 (mkReq m).s);have hf:=GR.flat_set encRq 4 encRq_length (mks mkReq 4 s l k) k (mkReq m) (by rw [unhide HML];exact hlt);have h5:=GR.C.toW (enc:=encRq) (l:=(mks mkReq 4 s l k).set k (mkReq m)) encRq_length (by omega) (by rw [←hf];exact h4);have hmk:mkReq m=mkReq (s+4*k):=by rw [unhide HM]
 rw [hmk,mks_set mkReq 4 s l k hlt,←hmk] at h5;refine⟨k+1,m+4,by omega,by go_num,by go_num,by have:=unhide HM;omega,h5,?_⟩;exact(((((HK.trans (fp_keeps (KeepsL.set _) hpos)).trans (KeepsL.of_below HB1)).trans (fp_keeps (KeepsL.set _) hpos)).trans (fp_keeps (KeepsL.set _) hpos)).trans (fp_keeps (KeepsL.set _) hpos))):P:=h
theorem Ya19(h:P:=by
 refine wp_at (fun W0 hW0=>?_);have HB0:Hid (W0.heap[w.heap.size]?=some (.cells (ndc ⟨id,par,kids,next,pu,out,seen,old,reqs⟩ ⟨ak,ap,ao,as',ar,ck,cp,co,cs,cr⟩) 42 (0,0))):=by rw [hW0];exact HBX
 have HL0:Hid (Below w.heap.size w W0):=by rw [hW0];exact below_one w _
 clear hW0 HBX;exact Ka19):P:=h
theorem Sa60.Ka19(h:P:=by
 obtain⟨al,hal⟩:∃al:Int,(kids.length:Int)+(if 0≤par then 1 else 0)=al:=⟨_,rfl⟩;rw [hal] at HD;go_cut [3] (fun r wx=>r= .int .i64 al∧wx=W0)
 case first=>
  by_cases hp:0≤par
  ·rw [if_pos hp] at hal;have HAL:=hide hal;clear hal;go_wp2_with fail;go_meet
   case rel=>exact⟨by rw [←unhide HAL],rfl⟩
  ·rw [if_neg hp] at hal;have HAL:=hide hal;clear hal;go_wp2_with fail;go_meet
   case rel=>exact⟨by rw [←unhide HAL,Int.add_zero],rfl⟩
 case rest=>
  obtain⟨rfl,rfl⟩:=hcut;clear hal;obtain⟨c0,c1,c2,c3,c4,c5,c6,_⟩:=nine HB0;by_cases hlen:(seen.length:Int)=al
  case' neg=>
   have hbn:((seen.length:Int) != al)=true:=by simpa using hlen
   have HP:Hid (TT=false):=by rw [unhide HD,decide_eq_false hlen];rfl
   clear hlen HD HCB HCF HCN HNR HPP HRR
   go_wp2_with fail
   go_ret
   exact⟨ret_bool HP.symm,HL0⟩
  have hbn:((seen.length:Int) != al)=false:=by simpa using hlen
  have HOK:Hid (TT=chk PP RR seen):=by rw [unhide HD,decide_eq_true hlen];rfl
  clear hlen HD;go_wp2_with fail;go_loopw [4] (fun i wr=>∃k:Nat,k≤seen.length∧i= .int .i64 k∧chk PP RR (seen.take k)=true∧wr.heap[w.heap.size]?=some (.cells (ndc ⟨id,par,kids,next,pu,out,seen,old,reqs⟩ ⟨ak,ap,ao,as',ar,ck,cp,co,cs,cr⟩) 42 (0,0))∧Below w.heap.size w wr) (fun i _=>seen.length - (intOf i).toNat)
  case atStart=>exact⟨0,Nat.zero_le _,rfl,rfl,HB0,HL0⟩
  case round=>
   obtain⟨k,hk,rfl,hall,hblk,hbel⟩:=hrel;have HALL:=hide hall;have HBL:=hide hbel;have HBK:=hide hblk;obtain⟨c0,c1,c2,c3,c4,c5,c6,_⟩:=nine hblk;clear hall hbel hblk;by_cases hlt:k < seen.length
   case' neg=>
    have hke:k=seen.length:=by omega
    subst hke
    have hnlt:decide ((seen.length:Int) < (seen.length:Int))=false:=by simp
    have HF:Hid (TT=true):=by
     exact Za10
    go_wp2_with fail
    go_ret
    exact⟨ret_bool HF.symm,HBL⟩
   have HBAD:Hid (chk PP RR (seen.take (k+1))=false→TT=false):=fun h=>HOK.trans (HCB _ h)
   obtain⟨g,off,b,c,e0,hgw,q0,q1,q2,hI⟩:=SeenAt.below HS HBL k hlt;have hids:(seen[k]).ids.length≤1048600:=unhide HL3 _ (List.getElem_mem hlt);have HI:=hide hI;have HIDS:=hide hids;clear hI hids
   have HPV:Hid (∃pv:Bool,chk PP RR (seen.take (k+1))=((NN (seen[k]).f&&snB seen[k])&&pv)∧((k=0∧pv=true)∨∃(j:Nat) (y:Int),k=j+1∧pv=decide (y < (seen[k]).f)∧wr.cell? ⟨g,off+j*3,none⟩=some (.int .i64 y))):=by
    cases k with
    |zero=>
     refine⟨true,?_,.inl ⟨rfl,rfl⟩⟩
     have h:=unhide HCF hlt
     rw [Bool.and_true]
     exact h
    |succ j=>
     obtain⟨g',off',_,_,e2,_,p0,_⟩:=SeenAt.below HS HBL j (by omega)
     rw [e0] at e2
     injection e2 with e2
     injection e2 with e2 e3
     subst e2 e3
     refine⟨_,?_,.inr ⟨j,_,rfl,rfl,p0⟩⟩
     have h:=unhide HCN j hlt
     rw [unhide HALL] at h
     exact h
   subst e0;generalize hsk:seen[k]=sk at *;clear hsk;obtain⟨fr,lo,ids⟩:=sk;dsimp only at q0 q1 q2 HI HIDS HPV;obtain⟨pv,hpv,hpk⟩:=unhide HPV;have HNX:=hide hpv;have HPK:=hide hpk;obtain⟨bb,hbb⟩:∃bb,(!(NN fr&&pv&&smB lo&&decide (ids.length≤40)))=bb:=⟨_,rfl⟩;have HBB:=hide hbb;clear hpv hpk HPV hbb HCF HCN HCB;go_upto_region 10 with fail;open Sa86 in exact Ya27):P:=h
theorem Sa61.Ka19(h:P:=by
 obtain⟨bb,hbb⟩:∃bb,(!(PL&&PS&&TD&&smB next&&decide (out.length≤40)&&amB old&&decide (reqs.length≤30)))=bb:=⟨_,rfl⟩;have HBB:=hide hbb;clear hbb;obtain⟨c0,c1,c2,c3,c4,c5,c6,c7,c8⟩:=nine HB0;go_cut [44] (fun r wx=>r= .bool bb∧wx.heap[w.heap.size]?=some (.cells (ndc ⟨id,par,kids,next,pu,out,seen,old,reqs⟩ ⟨ak,ap,ao,as',ar,ck,cp,co,cs,cr⟩) 42 (0,0))∧Below w.heap.size w wx)
 case first=>
  open Sa31 in exact Ya9
 case rest=>
  obtain⟨rfl,hblk,hbel⟩:=hcut;have HB1:=hide hblk;have HL1:=hide hbel;clear hblk hbel c0 c1 c2 c3 c4 c5 c6 c7 c8 HPL HPU HTO HB0 HL0;cases hbv:bb
  case' true=>
   have HP:Hid (TT=false):=by
    have h:=unhide HBB;rw [hbv] at h;rw [unhide HD];generalize (PL&&PS&&TD&&smB next&&decide (out.length≤40)&&amB old&&decide (reqs.length≤30))=X at *;cases X
    ·rfl
    ·cases h
   clear HBB HD
   subst hbv
   go_wp2_with fail
   go_ret
   exact⟨ret_bool HP.symm,HL1⟩
  have HF:Hid (smB next=true∧amB old=true∧TT=(chk OT (fun s t=>ltB s.i t.i) out&&chk RQ (fun s t=>ltB s.no t.no) reqs)):=by
   have h:=unhide HBB;rw [hbv] at h;rw [unhide HD];cases h4:smB next<;>cases h6:amB old<;>rw [h4,h6] at h
   all_goals first
    |(simp at h;done)
    |skip
   refine⟨rfl,rfl,?_⟩;generalize (PL&&PS&&TD&&true&&decide (out.length≤40)&&true&&decide (reqs.length≤30))=X at *;cases X
   ·cases h
   ·rfl
  clear HBB HD;subst hbv;obtain⟨hn1,ho1,hTT⟩:=unhide HF;have HTT:=hide hTT;have hn2:1≤next∧next≤1000000000:=of_decide_eq_true hn1;have ho2:0≤old∧old≤1000000000:=of_decide_eq_true ho1;obtain⟨hn3,hn4⟩:=hn2;obtain⟨ho3,ho4⟩:=ho2;clear hn1 ho1 hTT HF;have HCB:=hide (fun k h=>chk_bad OT (fun s t=>ltB s.i t.i) out k h);have HCF:=hide (chk_first OT (fun s t=>ltB s.i t.i) out);have HCN:=hide (chk_next OT (fun s t=>ltB s.i t.i) out);have HDB:=hide (fun k h=>chk_bad RQ (fun s t=>ltB s.no t.no) reqs k h);have HDF:=hide (chk_first RQ (fun s t=>ltB s.no t.no) reqs);have HDN:=hide (chk_next RQ (fun s t=>ltB s.no t.no) reqs);generalize (fun s t:Snt=>ltB s.i t.i)=RO at *;generalize (fun s t:Rq=>ltB s.no t.no)=RR at *;go_wp2_with fail;go_loopw [3] (fun i wr=>∃k:Nat,k≤out.length∧i= .int .i64 k∧chk OT RO (out.take k)=true∧wr.heap[w.heap.size]?=some (.cells (ndc ⟨id,par,kids,next,pu,out,seen,old,reqs⟩ ⟨ak,ap,ao,as',ar,ck,cp,co,cs,cr⟩) 42 (0,0))∧Below w.heap.size w wr) (fun i _=>out.length - (intOf i).toNat)
  case atStart=>exact⟨0,Nat.zero_le _,rfl,rfl,HB1,HL1⟩
  case round=>
   obtain⟨k,hk,rfl,hall,hblk,hbel⟩:=hrel;have HALL:=hide hall;have HBL:=hide hbel;have HBK:=hide hblk;obtain⟨c0,c1,c2,c3,c4,c5,c6,c7,c8⟩:=nine hblk;clear hall hbel hblk;by_cases hlt:k < out.length
   case' pos=>
    have HBAD:Hid (chk OT RO (out.take (k+1))=false→TT=false):=fun h=>by rw [unhide HTT,unhide HCB _ h];rfl
    obtain⟨g,off,e0,hgw,q0,q1,q2,q3⟩:=SentAt.four (HA.below HBL).o k hlt
    (try dsimp only at e0 q0 q1 q2 q3)
    have hks:=HZ.ok _ (List.getElem_mem hlt)
    (try dsimp only at hks)
    have HPV:Hid (∃pv:Bool,chk OT RO (out.take (k+1))=(OT out[k]&&pv)∧((k=0∧pv=true)∨∃(j:Nat) (y:Int),k=j+1∧pv=decide (y < (out[k]).i)∧wr.cell? ⟨g,off+j*4,none⟩=some (.int .i64 y))):=by
     cases k with
     |zero=>
      refine⟨true,?_,.inl ⟨rfl,rfl⟩⟩
      rw [Bool.and_true]
      exact HCF hlt
     |succ j=>
      obtain⟨g',off',e2,_,p0,_⟩:=SentAt.four (HA.below HBL).o j (show j < out.length by omega)
      (try dsimp only at e2 p0)
      rw [e0] at e2
      injection e2 with e2
      injection e2 with e2 e3
      subst e2 e3
      refine⟨_,?_,.inr ⟨j,_,rfl,rfl,p0⟩⟩
      have h:=unhide HCN j hlt
      rw [unhide HALL] at h
      exact h
    subst e0
    have HOK:=hide (HOT out[k])
    generalize out[k]=sk at *
    generalize OT sk=OB at *
    obtain⟨si,st,sx,sn⟩:=sk
    dsimp only at q0 q1 q2 q3 hks HPV HOK
    obtain⟨pv,hpv,hpk⟩:=unhide HPV
    have HNX:=hide hpv
    have HPK:=hide hpk
    obtain⟨bb,hbb⟩:∃bb,(!(decide (1≤si∧si≤next - 1)&&NN st&&keyOk sx.data.toList&&smB sn&&pv))=bb:=⟨_,rfl⟩
    have HBB:=hide hbb
    clear hpv hpk HPV hbb HCF HCN HCB
    go_upto_region 7 with fail
    refine wp_at (fun W1 hW1=>?_)
    have HW1:Hid (W1.heap[wr.heap.size]?=some (.cells #[.int .i64 si,.int .i64 st,.string sx,.int .i64 sn] 69 (0,0))):=by rw [hW1];exact heap_alloc_new _ _
    have hbw:Below wr.heap.size wr W1:=by rw [hW1];exact below_one wr _
    have HBK1:=hide (obj_step HBK hbw)
    have HBL1:=hide (HBL.trans (hbw.mono HBL.size))
    have hgw1:=hbw.size
    have HPK1:Hid ((k=0∧pv=true)∨∃(j:Nat) (y:Int),k=j+1∧pv=decide (y < si)∧W1.cell? ⟨g,off+j*4,none⟩=some (.int .i64 y)):=by
     exact Za27
    clear hW1 hbw q0 q1 q2 q3 c0 c1 c2 c3 c4 c5 c6 c7 c8 HPK HBK
    obtain⟨d0,d1,d2,d3⟩:=fourC HW1
    obtain⟨c0,c1,c2,c3,c4,c5,c6,c7,c8⟩:=nine HBK1
    have k0:=cell_grown' c0
    have k1:=cell_grown' c1
    have k2:=cell_grown' c2
    have k3:=cell_grown' c3
    have k4:=cell_grown' c4
    have k5:=cell_grown' c5
    have k6:=cell_grown' c6
    have k7:=cell_grown' c7
    have k8:=cell_grown' c8
    have m0:=cell_grown' d0
    have m1:=cell_grown' d1
    have m2:=cell_grown' d2
    have m3:=cell_grown' d3
    have en:IntKind.i64.wrap (next - 1)=next - 1:=IntWalk.i64_in _ ⟨by omega,by omega⟩
    go_cut [98] (fun r wx=>r= .bool bb∧Below W1.heap.size W1 wx)
    case first=>
     rcases HPK1 with⟨rfl,rfl⟩|⟨j,y,rfl,rfl,q1⟩
     ·have hgt:decide ((0:Int) < ((0:Nat):Int))=false:=rfl;open Sa3 in exact Ya1
     ·have hgt:decide ((0:Int) < ((j+1:Nat):Int))=true:=decide_eq_true (by omega);have m9:=cell_grown' q1;open Sa2 in exact Ya1
    case rest=>
     obtain⟨rfl,hbx⟩:=hcut;open Sa13 in exact Ya4
   have hke:k=out.length:=by omega
   subst hke;have hnlt:decide ((out.length:Int) < (out.length:Int))=false:=by simp
   have HOF:Hid (TT=chk RQ RR reqs):=by
    have h:=unhide HALL;rw [List.take_length] at h;rw [unhide HTT,h];rfl
   clear HCF HCN HCB HOT;go_wp2_with fail;go_loopw [5] (fun i wr=>∃k:Nat,k≤reqs.length∧i= .int .i64 k∧chk RQ RR (reqs.take k)=true∧wr.heap[w.heap.size]?=some (.cells (ndc ⟨id,par,kids,next,pu,out,seen,old,reqs⟩ ⟨ak,ap,ao,as',ar,ck,cp,co,cs,cr⟩) 42 (0,0))∧Below w.heap.size w wr) (fun i _=>reqs.length - (intOf i).toNat)
   case atStart=>exact⟨0,Nat.zero_le _,rfl,rfl,HBK,HBL⟩
   case round=>
    obtain⟨k,hk,rfl,hall,hblk,hbel⟩:=hrel;have HALL:=hide hall;have HBL:=hide hbel;have HBK:=hide hblk;clear c0 c1 c2 c3 c4 c5 c6 c7 c8;obtain⟨c0,c1,c2,c3,c4,c5,c6,c7,c8⟩:=nine hblk;clear hall hbel hblk;by_cases hlt:k < reqs.length
    case' neg=>
     have hke:k=reqs.length:=by omega
     subst hke
     have hnlt2:decide ((reqs.length:Int) < (reqs.length:Int))=false:=by simp
     have HF:Hid (TT=true):=by
      have h:=unhide HALL;rw [List.take_length] at h;exact HOF.trans h
     go_wp2_with fail
     go_ret
     exact⟨ret_bool HF.symm,HBL⟩
    have HBAD:Hid (chk RQ RR (reqs.take (k+1))=false→TT=false):=fun h=>HOF.trans (HDB _ h)
    open Sa84 in exact Ya26):P:=h
theorem Sa62.Ka19(h:P:=by
 obtain⟨c0,c1,c2,c3,c4,c5,c6,c7,c8⟩:=nine HB0;open Sa32 in exact Ya9):P:=h
theorem Ya20(h:P:=by
 open Sa91 in exact Ya29):P:=h
theorem Sa63.Ka20(h:P:=by
 exact Za3):P:=h
theorem Sa64.Ka20(h:P:=by
 open Sa89 in exact Ya28):P:=h
theorem Ya21(h:P:=by
 obtain⟨k,y,hk,rfl,rfl,hy,hall,hblk,hbel⟩:=hrel;have HALL:=hide hall;have HY:=hide hy;have HBL:=hide hbel;have HBK:=hide hblk;exact Ka21):P:=h
theorem Sa65.Ka21(h:P:=by
 have hy0:old≤y:=by rw [hy];exact HLB k hall
 clear hall hy hblk hbel;by_cases hlt:k < reqs.length
 case' neg=>
  have hke:k=reqs.length:=by omega
  subst hke
  have hnlt:decide ((reqs.length:Int) < (reqs.length:Int))=false:=by simp
  have HF:Hid (TT=true):=by
   exact Za10
  go_wp2_with fail
  go_ret
  exact⟨ret_bool HF.symm,HBL⟩
 open Sa83 in exact Ya26):P:=h
theorem Sa66.Ka21(h:P:=by
 have hy0:0≤y:=by rw [hy];exact HLB k hall
 clear hall hy hblk hbel;by_cases hlt:k < out.length
 case' neg=>
  have hke:k=out.length:=by omega
  subst hke
  have hnlt:decide ((out.length:Int) < (out.length:Int))=false:=by simp
  have HF:Hid (TT=true):=by
   exact Za10
  go_wp2_with fail
  go_ret
  exact⟨ret_bool HF.symm,HBL⟩
 obtain⟨g,off,e0,hgw,q0,q1,q2,q3⟩:=SentAt.four (HA.below HBL).o k hlt;(try dsimp only at e0 q0 q1 q2 q3)
 subst e0;have HBAD:Hid (chk KB RR (out.take (k+1))=false→TT=false):=fun h=>HOK.trans (HCB _ h)
 have HNX:Hid (chk KB RR (out.take (k+1))=(KB out[k]&&decide (y < (out[k]).i))):=by
  exact Za37
 have HLN:=hide (HLS k hlt);have HKX:=hide (HKB out[k]);clear HCL HLS HCB HKB HLB;generalize out[k]=sk at *;generalize KB sk=OB at *;obtain⟨si,st,sx,sn⟩:=sk;dsimp only at q0 q1 q2 q3 HNX HLN HKX;obtain⟨bb,hbb⟩:∃bb,(!(decide (y < si)&&decide (si < next)&&NN st&&keyOk sx.data.toList&&smB sn))=bb:=⟨_,rfl⟩;have HBB:=hide hbb
 have HVB:Hid (chk KB RR (out.take (k+1))= !bb):=by
  rw [unhide HNX,←unhide HBB,unhide HKX,Bool.not_not]
  have e1:(decide (1≤si∧si≤next - 1)&&decide (y < si))=(decide (y < si)&&decide (si < next)):=by
   rw [Bool.eq_iff_iff];exact Za36
  rw [←e1];generalize decide (1≤si∧si≤next - 1)=z1;generalize decide (y < si)=z2;generalize NN st=z3;generalize keyOk sx.data.toList=z4;generalize smB sn=z5;cases z1<;>cases z2<;>cases z3<;>cases z4<;>cases z5<;>exact hide rfl
 clear hbb HNX HKX;go_upto_region 7 with fail;refine wp_at (fun W1 hW1=>?_);have HW1:Hid (W1.heap[wr.heap.size]?=some (.cells #[.int .i64 si,.int .i64 st,.string sx,.int .i64 sn] 69 (0,0))):=by rw [hW1];exact heap_alloc_new _ _
 have hbw:Below wr.heap.size wr W1:=by rw [hW1];exact below_one wr _
 have HBK1:=hide (obj_step HBK hbw);have HBL1:=hide (HBL.trans (hbw.mono HBL.size));clear hW1 hbw q0 q1 q2 q3 HBK;obtain⟨d0,d1,d2,d3⟩:=fourC HW1;obtain⟨c0,c1,c2,c3,c4,c5,c6,c7,c8⟩:=nine HBK1;go_cut [46] (fun r wx=>r= .bool bb∧Below W1.heap.size W1 wx)
 case first=>
  by_cases h1:y < si
  case' neg=>
   have HV:=hide (show bb=true by rw [←unhide HBB];simp[h1])
   have hb1:decide (si≤y)=true:=decide_eq_true (by omega)
   clear HBB HVB
   go_wp2_with fail
   go_meet
   case rel=>exact⟨by rw [unhide HV],Below.refl _ _⟩
  have hb1:decide (si≤y)=false:=decide_eq_false (by omega);by_cases h2:si < next
  case' neg=>
   have HV:=hide (show bb=true by rw [←unhide HBB];simp[h2])
   have hb2:decide (next≤si)=true:=decide_eq_true (by omega)
   clear HBB HVB
   go_wp2_with fail
   go_meet
   case rel=>exact⟨by rw [unhide HV],Below.refl _ _⟩
  have hb2:decide (next≤si)=false:=decide_eq_false (by omega);go_wp2_with fail;refine(HNR _ _ HBL1).mono ?_;rintro e w2 ⟨rfl,hb3⟩;have HB3:=hide hb3;have HW2:=hide (obj_step HW1 hb3);clear hb3 d0 d1 d2 d3 c0 c1 c2 c3 c4 c5 c6 c7 c8;obtain⟨d0,d1,d2,d3⟩:=fourC HW2;cases h3:NN st
  case' false=>
   have HV:=hide (show bb=true by rw [←unhide HBB];simp[h3])
   clear HBB HVB h3
   go_wp2_with fail
   go_meet
   case rel=>exact⟨by rw [unhide HV],HB3⟩
  cases h4:keyOk sx.data.toList
  case' false=>
   have HV:=hide (show bb=true by rw [←unhide HBB];simp[h4])
   have H4:=hide (fun w1=>implKeyR sx false w1 h4)
   clear HBB HVB h3 h4
   go_wp2_with (go_at_call 68;refine(H4 _).mono ?_;rintro e w9 ⟨rfl,rfl⟩)
   go_meet
   case rel=>exact⟨by rw [unhide HV],HB3⟩
  have H4:=hide (fun w1=>implKeyR sx true w1 h4);have HV:=hide (show bb= !smB sn by rw [←unhide HBB];simp[h1,h2,h3,h4]);have H5:=hide (fun w1=>isSomeAmount sn _ w1 rfl);clear HBB HVB h3 h4;go_wp2_with (first|(go_at_call 68;refine(H4 _).mono ?_;rintro e w9 ⟨rfl,rfl⟩)|(go_at_call 54;refine(H5 _).mono ?_;rintro e w9 ⟨rfl,rfl⟩))
  go_meet
  case rel=>exact⟨by rw [unhide HV],HB3⟩
 case rest=>
  obtain⟨rfl,hbx⟩:=hcut;open Sa14 in exact Ya4):P:=h
theorem Ya22(h:P:=by
 have cO:∀d os,Calls Try.prog 66 #[puv ⟨pk,pm,pf,ps⟩] (Sort.grow (redrawn V d) os) fun e w''=>e= .returned (.bool false)∧∃p:Regrown,w''=Sort.grow (redrawn V p.d) p.os:=fun d os=>Calls.regrown_of (HO _)
 exact Ka22):P:=h
theorem Sa67.Ka22(h:P:=by
 open Sa88 in exact Ya28):P:=h
theorem Sa68.Ka22(h:P:=by
 exact Za3):P:=h
theorem Ya23(h:P:=by
 obtain⟨id,par,kids,next,pu,out,seen,old,reqs⟩:=n;obtain⟨ak,ap,ao,as',ar,ck,cp,co,cs,cr⟩:=A;exact Ka23):P:=h
theorem Sa69.Ka23(h:P:=by
 dsimp only at hl HA HD HTL HCB HCF HCN ⊢;cases h1:ndB id
 case' false=>
  have HP:=hide (HD (by rw [h1];rfl))
  clear HD HTL HCB HCF HCN
  go_enter Try.func45,Try.ntmps45
  go_wp2_with (first|(go_at_call 62;refine(l04Node _ false _ h1).mono ?_;rintro e w1 ⟨rfl,rfl⟩))
  go_ret
  exact⟨ret_bool HP.symm,below_one w _⟩
 cases h2:decide (-1≤par∧par≤29)
 case' false=>
  have HP:=hide (HD (by rw [h2];simp))
  clear HD HTL HCB HCF HCN
  go_enter Try.func45,Try.ntmps45
  go_wp2_with (first|(go_at_call 62;refine(l04Node _ true _ h1).mono ?_;rintro e w1 ⟨rfl,rfl⟩)|(go_at_call 33;refine(l01InR _ _ _ false _ h2).mono ?_;rintro e w1 ⟨rfl,rfl⟩))
  go_ret
  exact⟨ret_bool HP.symm,below_one w _⟩
 by_cases h3:par=id
 case' pos=>
  have hb3:(par == id)=true:=by simp[h3]
  have HP:=hide (HD (by simp[h3]))
  clear h3 HD HTL HCB HCF HCN
  go_enter Try.func45,Try.ntmps45
  go_wp2_with (first|(go_at_call 62;refine(l04Node _ true _ h1).mono ?_;rintro e w1 ⟨rfl,rfl⟩)|(go_at_call 33;refine(l01InR _ _ _ true _ h2).mono ?_;rintro e w1 ⟨rfl,rfl⟩))
  go_ret
  exact⟨ret_bool HP.symm,below_one w _⟩
 have hb3:(par == id)=false:=by simp[h3]
 by_cases h4:kids.length≤30
 case' neg=>
  have hb4:decide ((30:Int) < kids.length)=true:=decide_eq_true (by omega)
  have HP:=hide (HD (by simp[h4]))
  clear HD HTL HCB HCF HCN
  go_enter Try.func45,Try.ntmps45
  go_wp2_with (first|(go_at_call 62;refine(l04Node _ true _ h1).mono ?_;rintro e w1 ⟨rfl,rfl⟩)|(go_at_call 33;refine(l01InR _ _ _ true _ h2).mono ?_;rintro e w1 ⟨rfl,rfl⟩))
  go_ret
  exact⟨ret_bool HP.symm,below_one w _⟩
 have hb4:decide ((30:Int) < kids.length)=false:=decide_eq_false (by omega);have HOK:=hide (HTL h1 (of_decide_eq_true h2) h3 h4);clear HD HTL;go_enter Try.func45,Try.ntmps45
 go_wp2_with (first|(go_at_call 62;refine(l04Node _ true _ h1).mono ?_;rintro e w1 ⟨rfl,rfl⟩)|(go_at_call 33;refine(l01InR _ _ _ true _ h2).mono ?_;rintro e w1 ⟨rfl,rfl⟩))
 go_loopw [3] (fun i wr=>∃k:Nat,k≤kids.length∧i= .int .i64 k∧chk (kidB id par) ltB (kids.take k)=true∧wr.heap[w.heap.size]?=some (.cells (ndc ⟨id,par,kids,next,pu,out,seen,old,reqs⟩ ⟨ak,ap,ao,as',ar,ck,cp,co,cs,cr⟩) 42 (0,0))∧Below w.heap.size w wr) (fun i _=>kids.length - (intOf i).toNat)
 case atStart=>exact⟨0,Nat.zero_le _,rfl,rfl,heap_alloc_new w _,below_one w _⟩
 case round=>
  obtain⟨k,hk,rfl,hall,hblk,hbel⟩:=hrel;have HALL:=hide hall;have HBL:=hide hbel;have HBK:=hide hblk;obtain⟨c0,c1,c2,_⟩:=nine hblk;clear hall hbel hblk;by_cases hlt:k < kids.length
  case' neg=>
   have hke:k=kids.length:=by omega
   subst hke
   have hnlt:decide ((kids.length:Int) < (kids.length:Int))=false:=by simp
   have HF:Hid (placeB ⟨id,par,kids,next,pu,out,seen,old,reqs⟩=true):=by
    exact Za10
   go_wp2_with fail
   go_ret
   exact⟨ret_bool HF.symm,HBL⟩
  have HBAD:Hid (chk (kidB id par) ltB (kids.take (k+1))=false→placeB ⟨id,par,kids,next,pu,out,seen,old,reqs⟩=false):=fun h=>HOK.trans (HCB _ h)
  cases k with
  |zero=>
   obtain⟨g,off,rfl,hgw,q0⟩:=IntsAt.one (GR.At.below HA HBL) 0 hlt
   rw [Nat.add_zero] at q0
   have hgt:decide ((0:Int) < ((0:Nat):Int))=false:=rfl
   have HNX:Hid (chk (kidB id par) ltB (kids.take 1)=kidB id par kids[0]):=unhide HCF hlt
   clear HCF HCN HCB
   generalize kids[0]=x at *
   cases hx1:ndB x
   case' false=>
    have HP:=hide (HBAD (by rw [unhide HNX];simp[kidB,hx1]))
    clear HBAD HNX
    go_wp2_with fail
    refine wp_region_quiet_lit (by kernel_rfl) (by kernel_rfl) ?_
    repeat (first|go_big_quiet_step ((first|(go_at_call 62;exact qNode _ _ hx1 _ _)))|quiet_step ((first|(go_at_call 62;exact qNode _ _ hx1 _ _))))
    refine wpQuiet_nil ?_
    intro _ hw'
    obtain⟨nq,hw''⟩:=hw'
    subst hw''
    go_wp2_with fail
    go_ret
    exact⟨ret_bool HP.symm,HBL.trans ⟨rfl,rfl,rfl,Nat.le_refl _,fun _ _=>rfl⟩⟩
   by_cases hx2:x=id
   case' pos=>
    have hy2:(x == id)=true:=by simp[hx2]
    have HP:=hide (HBAD (by rw [unhide HNX];simp[kidB,hx2]))
    clear HBAD HNX hx2
    go_wp2_with fail
    refine wp_region_quiet_lit (by kernel_rfl) (by kernel_rfl) ?_
    repeat (first|go_big_quiet_step ((first|(go_at_call 62;exact qNode _ _ hx1 _ _)))|quiet_step ((first|(go_at_call 62;exact qNode _ _ hx1 _ _))))
    refine wpQuiet_nil ?_
    intro _ hw'
    obtain⟨nq,hw''⟩:=hw'
    subst hw''
    go_wp2_with fail
    go_ret
    exact⟨ret_bool HP.symm,HBL.trans ⟨rfl,rfl,rfl,Nat.le_refl _,fun _ _=>rfl⟩⟩
   have hy2:(x == id)=false:=by simp[hx2]
   by_cases hx3:x=par
   case' pos=>
    have hy3:(x == par)=true:=by simp[hx3]
    have HP:=hide (HBAD (by rw [unhide HNX];simp[kidB,hx3]))
    clear HBAD HNX hx3
    go_wp2_with fail
    refine wp_region_quiet_lit (by kernel_rfl) (by kernel_rfl) ?_
    repeat (first|go_big_quiet_step ((first|(go_at_call 62;exact qNode _ _ hx1 _ _)))|quiet_step ((first|(go_at_call 62;exact qNode _ _ hx1 _ _))))
    refine wpQuiet_nil ?_
    intro _ hw'
    obtain⟨nq,hw''⟩:=hw'
    subst hw''
    go_wp2_with fail
    go_ret
    exact⟨ret_bool HP.symm,HBL.trans ⟨rfl,rfl,rfl,Nat.le_refl _,fun _ _=>rfl⟩⟩
   have hy3:(x == par)=false:=by simp[hx3]
   have HG:=hide (show chk (kidB id par) ltB (kids.take (0+1))=true by rw [unhide HNX];simp[kidB,hx1,hx2,hx3])
   clear HBAD HNX
   go_wp2_with fail
   refine wp_region_quiet_lit (by kernel_rfl) (by kernel_rfl) ?_
   repeat (first|go_big_quiet_step ((first|(go_at_call 62;exact qNode _ _ hx1 _ _)))|quiet_step ((first|(go_at_call 62;exact qNode _ _ hx1 _ _))))
   refine wpQuiet_nil ?_
   intro _ hw'
   obtain⟨nq,hw''⟩:=hw'
   subst hw''
   go_wp2_with fail
   go_roundw
   case rel=>exact⟨0+1,by omega,by go_num,HG,HBK,HBL.trans ⟨rfl,rfl,rfl,Nat.le_refl _,fun _ _=>rfl⟩⟩
   case measure=>simp[intOf];omega
  |succ j=>
   obtain⟨g,off,e1,hgw,q0⟩:=IntsAt.one (GR.At.below HA HBL) (j+1) hlt
   obtain⟨g',off',e2,hgw',q1⟩:=IntsAt.one (GR.At.below HA HBL) j (by omega)
   rw [e1] at e2
   injection e2 with e2
   injection e2 with e2 e3
   subst e2 e3 e1
   have hgt:decide ((0:Int) < ((j+1:Nat):Int))=true:=decide_eq_true (by omega)
   have HNX:Hid (chk (kidB id par) ltB (kids.take (j+1+1))=(kidB id par kids[j+1]&&ltB kids[j] kids[j+1])):=by
    have h:=unhide HCN j hlt;rw [unhide HALL] at h;exact h
   clear HCF HCN HCB
   generalize kids[j]=y at *
   generalize kids[j+1]=x at *
   cases hx1:ndB x
   case' false=>
    have HP:=hide (HBAD (by rw [unhide HNX];simp[kidB,hx1]))
    clear HBAD HNX
    go_wp2_with fail
    refine wp_region_quiet_lit (by kernel_rfl) (by kernel_rfl) ?_
    repeat (first|go_big_quiet_step ((first|(go_at_call 62;exact qNode _ _ hx1 _ _)))|quiet_step ((first|(go_at_call 62;exact qNode _ _ hx1 _ _))))
    refine wpQuiet_nil ?_
    intro _ hw'
    obtain⟨nq,hw''⟩:=hw'
    subst hw''
    go_wp2_with fail
    go_ret
    exact⟨ret_bool HP.symm,HBL.trans ⟨rfl,rfl,rfl,Nat.le_refl _,fun _ _=>rfl⟩⟩
   by_cases hx2:x=id
   case' pos=>
    have hy2:(x == id)=true:=by simp[hx2]
    have HP:=hide (HBAD (by rw [unhide HNX];simp[kidB,hx2]))
    clear HBAD HNX hx2
    go_wp2_with fail
    refine wp_region_quiet_lit (by kernel_rfl) (by kernel_rfl) ?_
    repeat (first|go_big_quiet_step ((first|(go_at_call 62;exact qNode _ _ hx1 _ _)))|quiet_step ((first|(go_at_call 62;exact qNode _ _ hx1 _ _))))
    refine wpQuiet_nil ?_
    intro _ hw'
    obtain⟨nq,hw''⟩:=hw'
    subst hw''
    go_wp2_with fail
    go_ret
    exact⟨ret_bool HP.symm,HBL.trans ⟨rfl,rfl,rfl,Nat.le_refl _,fun _ _=>rfl⟩⟩
   have hy2:(x == id)=false:=by simp[hx2]
   by_cases hx3:x=par
   case' pos=>
    have hy3:(x == par)=true:=by simp[hx3]
    have HP:=hide (HBAD (by rw [unhide HNX];simp[kidB,hx3]))
    clear HBAD HNX hx3
    go_wp2_with fail
    refine wp_region_quiet_lit (by kernel_rfl) (by kernel_rfl) ?_
    repeat (first|go_big_quiet_step ((first|(go_at_call 62;exact qNode _ _ hx1 _ _)))|quiet_step ((first|(go_at_call 62;exact qNode _ _ hx1 _ _))))
    refine wpQuiet_nil ?_
    intro _ hw'
    obtain⟨nq,hw''⟩:=hw'
    subst hw''
    go_wp2_with fail
    go_ret
    exact⟨ret_bool HP.symm,HBL.trans ⟨rfl,rfl,rfl,Nat.le_refl _,fun _ _=>rfl⟩⟩
   have hy3:(x == par)=false:=by simp[hx3]
   by_cases hx4:y < x
   case' neg=>
    have hy4:decide (x≤y)=true:=decide_eq_true (by omega)
    have HP:=hide (HBAD (by rw [unhide HNX];simp[kidB,ltB,hx4]))
    clear HBAD HNX
    go_wp2_with fail
    refine wp_region_quiet_lit (by kernel_rfl) (by kernel_rfl) ?_
    repeat (first|go_big_quiet_step ((first|(go_at_call 62;exact qNode _ _ hx1 _ _)))|quiet_step ((first|(go_at_call 62;exact qNode _ _ hx1 _ _))))
    refine wpQuiet_nil ?_
    intro _ hw'
    obtain⟨nq,hw''⟩:=hw'
    subst hw''
    go_wp2_with fail
    go_ret
    exact⟨ret_bool HP.symm,HBL.trans ⟨rfl,rfl,rfl,Nat.le_refl _,fun _ _=>rfl⟩⟩
   have hy4:decide (x≤y)=false:=decide_eq_false (by omega)
   have HG:=hide (show chk (kidB id par) ltB (kids.take (j+1+1))=true by rw [unhide HNX];simp[kidB,hx1,hx2,hx3,ltB,hx4])
   clear HBAD HNX
   go_wp2_with fail
   refine wp_region_quiet_lit (by kernel_rfl) (by kernel_rfl) ?_
   repeat (first|go_big_quiet_step ((first|(go_at_call 62;exact qNode _ _ hx1 _ _)))|quiet_step ((first|(go_at_call 62;exact qNode _ _ hx1 _ _))))
   refine wpQuiet_nil ?_
   intro _ hw'
   obtain⟨nq,hw''⟩:=hw'
   subst hw''
   go_wp2_with fail
   go_roundw
   case rel=>exact⟨j+1+1,by omega,by go_num,HG,HBK,HBL.trans ⟨rfl,rfl,rfl,Nat.le_refl _,fun _ _=>rfl⟩⟩
   case measure=>simp[intOf];omega):P:=h
theorem Sa70.Ka23(h:P:=by
 dsimp only at hl hl2 HA HS HL3 HD HCB HCF HCN HNR HBX ⊢;go_enter Try.func47,Try.ntmps47
 go_upto_if 12 with fail;open Sa60 in exact Ya19):P:=h
theorem Sa71.Ka23(h:P:=by
 dsimp only at hl HD HA HCB HCL HLS HKB HBX ⊢;clear ha;go_enter Try.func52,Try.ntmps52
 go_upto_region 1 with fail;refine wp_at (fun W0 hW0=>?_);have hblk:W0.heap[w.heap.size]?=some (.cells (ndc ⟨id,par,kids,next,pu,out,seen,old,reqs⟩ ⟨ak,ap,ao,as',ar,ck,cp,co,cs,cr⟩) 42 (0,0)):=by rw [hW0];exact HBX
 have HL0:Hid (Below w.heap.size w W0):=by rw [hW0];exact below_one w _
 obtain⟨c0,c1,c2,c3,c4,c5,c6,c7,c8⟩:=nine hblk;clear hW0 HBX hblk;obtain⟨bb,hbb⟩:∃bb,(!(ndB id&&(decide (par= -1)||(ndB par&&decide (par≠id)))))=bb:=⟨_,rfl⟩;have HBB:=hide hbb;clear hbb;go_cut [27] (fun r wx=>r= .bool bb∧wx=W0)
 case first=>
  cases h1:ndB id
  case' false=>
   have HV:=hide (show bb=true by rw [←unhide HBB];simp[h1])
   have H1:=hide (fun w1=>isNode id false w1 h1)
   clear HBB h1
   go_wp2_with (go_at_call 65;refine(H1 _).mono ?_;rintro e w1 ⟨rfl,rfl⟩)
   go_meet
   case rel=>exact⟨by rw [unhide HV],rfl⟩
  have H1:=hide (fun w1=>isNode id true w1 h1);by_cases h2:par= -1
  case' pos=>
   have HV:=hide (show bb=false by rw [←unhide HBB];simp[h1,h2])
   have hb2:(par != -1)=false:=by simp[h2]
   clear HBB h1 h2
   go_wp2_with (go_at_call 65;refine(H1 _).mono ?_;rintro e w1 ⟨rfl,rfl⟩)
   go_meet
   case rel=>exact⟨by rw [unhide HV],rfl⟩
  have hb2:(par != -1)=true:=by simp[h2]
  cases h3:ndB par
  case' false=>
   have HV:=hide (show bb=true by rw [←unhide HBB];simp[h2,h3])
   have H3:=hide (fun w1=>isNode par false w1 h3)
   clear HBB h1 h2 h3
   go_wp2_with (first|(go_at_call_of 65 id;refine(H1 _).mono ?_;rintro e w1 ⟨rfl,rfl⟩)|(go_at_call_of 65 par;refine(H3 _).mono ?_;rintro e w1 ⟨rfl,rfl⟩))
   go_meet
   case rel=>exact⟨by rw [unhide HV],rfl⟩
  have H3:=hide (fun w1=>isNode par true w1 h3);by_cases h4:par=id
  case' pos=>
   have HV:=hide (show bb=true by rw [←unhide HBB,decide_eq_false h2,decide_eq_false (show¬(par≠id) from fun h=>h h4)];simp)
   have hb4:(par == id)=true:=by simp[h4]
   subst h4
   clear HBB h1 h2 h3
   go_wp2_with (go_at_call 65;refine(H1 _).mono ?_;rintro e w1 ⟨rfl,rfl⟩)
   go_meet
   case rel=>exact⟨by rw [unhide HV],rfl⟩
  have HV:=hide (show bb=false by rw [←unhide HBB];simp[h1,h3,h4]);have hb4:(par == id)=false:=by simp[h4]
  clear HBB h1 h2 h3;go_wp2_with (first|(go_at_call_of 65 id;refine(H1 _).mono ?_;rintro e w1 ⟨rfl,rfl⟩)|(go_at_call_of 65 par;refine(H3 _).mono ?_;rintro e w1 ⟨rfl,rfl⟩))
  go_meet
  case rel=>exact⟨by rw [unhide HV],rfl⟩
 case rest=>
  obtain⟨rfl,rfl⟩:=hcut;cases hbv:bb
  case' true=>
   have HP:Hid (TT=false):=by
    have h:=unhide HBB;rw [hbv] at h;rw [unhide HD];generalize (ndB id&&(decide (par= -1)||(ndB par&&decide (par≠id))))=X at *;cases X
    ·rfl
    ·cases h
   clear HBB HD
   subst hbv
   go_wp2_with fail
   go_ret
   exact⟨ret_bool HP.symm,HL0⟩
  have HOK:Hid (TT=chk KB ltB kids):=by
   have h:=unhide HBB;rw [hbv] at h;rw [unhide HD];generalize (ndB id&&(decide (par= -1)||(ndB par&&decide (par≠id))))=X at *;cases X
   ·cases h
   ·rfl
  clear HBB HD;subst hbv;go_wp2_with fail;go_loop [3,31] (fun lv i=>∃(k:Nat) (y:Int),k≤kids.length∧i= .int .i64 k∧lv= .int .i64 y∧y=lastI (fun x=>x) (-1) (kids.take k)∧chk KB ltB (kids.take k)=true) (fun _ i=>kids.length - (intOf i).toNat)
  case atStart=>exact⟨0,-1,Nat.zero_le _,rfl,rfl,rfl,rfl⟩
  case round=>
   obtain⟨k,y,hk,rfl,rfl,hy,hall⟩:=hrel;have HALL:=hide hall;have HY:=hide hy;clear hall hy;by_cases hlt:k < kids.length
   case' neg=>
    have hke:k=kids.length:=by omega
    subst hke
    have hnlt:decide ((kids.length:Int) < (kids.length:Int))=false:=by simp
    have HF:Hid (TT=true):=by
     exact Za10
    go_wp2_with fail
    go_ret
    exact⟨ret_bool HF.symm,HL0⟩
   obtain⟨g,off,rfl,hgw,q0⟩:=IntsAt.one (GR.At.below HA HL0) k hlt;have HBAD:Hid (chk KB ltB (kids.take (k+1))=false→TT=false):=fun h=>HOK.trans (HCB _ h)
   have HNX:Hid (chk KB ltB (kids.take (k+1))=(KB kids[k]&&decide (y < kids[k]))):=by
    exact Za23
   have HLN:=hide (HLS k hlt);have HKX:=hide (HKB kids[k]);clear HCL HLS HCB HKB;generalize kids[k]=x at *;cases h1:ndB x
   case' false=>
    have H1:=hide (fun w1=>isNode x false w1 h1)
    have HV:=hide (HBAD (by rw [unhide HNX,unhide HKX];simp[h1]))
    clear HBAD HNX HKX h1
    go_wp2_with (go_at_call 65;refine(H1 _).mono ?_;rintro e w1 ⟨rfl,rfl⟩)
    go_ret
    exact⟨ret_bool HV.symm,HL0⟩
   have H1:=hide (fun w1=>isNode x true w1 h1);by_cases h2:y < x
   case' neg=>
    have hb2:decide (x≤y)=true:=decide_eq_true (by omega)
    have HV:=hide (HBAD (by rw [unhide HNX,unhide HKX];simp[h2]))
    clear HBAD HNX HKX h1
    go_wp2_with (go_at_call 65;refine(H1 _).mono ?_;rintro e w1 ⟨rfl,rfl⟩)
    go_ret
    exact⟨ret_bool HV.symm,HL0⟩
   have hb2:decide (x≤y)=false:=decide_eq_false (by omega);by_cases h3:x=id
   case' pos=>
    have hb3:(x == id)=true:=by simp[h3]
    have HV:=hide (HBAD (by rw [unhide HNX,unhide HKX];simp[h3]))
    clear HBAD HNX HKX h1 h3
    go_wp2_with (go_at_call 65;refine(H1 _).mono ?_;rintro e w1 ⟨rfl,rfl⟩)
    go_ret
    exact⟨ret_bool HV.symm,HL0⟩
   have hb3:(x == id)=false:=by simp[h3]
   by_cases h4:x=par
   case' pos=>
    have hb4:(x == par)=true:=by simp[h4]
    have HV:=hide (HBAD (by rw [unhide HNX,unhide HKX];simp[h4]))
    clear HBAD HNX HKX h1 h4
    go_wp2_with (go_at_call 65;refine(H1 _).mono ?_;rintro e w1 ⟨rfl,rfl⟩)
    go_ret
    exact⟨ret_bool HV.symm,HL0⟩
   have hb4:(x == par)=false:=by simp[h4]
   have HV:=hide (show chk KB ltB (kids.take (k+1))=true by rw [unhide HNX,unhide HKX];simp[h1,h2,h3,h4]);clear HBAD HNX HKX h1;go_wp2_with (go_at_call 65;refine(H1 _).mono ?_;rintro e w1 ⟨rfl,rfl⟩)
   exact Za34):P:=h
theorem Sa72.Ka23(h:P:=by
 obtain⟨bk,bp,bo,bs',br,dk,dp,dO,ds,dr⟩:=A';dsimp only at HK HP HO HS HR HA0 HB0 HL0 ⊢;go_enter Try.func21,Try.ntmps21
 obtain⟨c0,c1,c2,c3,c4,c5,c6,c7,c8⟩:=nine HA0;obtain⟨d0,d1,d2,d3,d4,d5,d6,d7,d8⟩:=nine HB0;go_wp2_with fail;refine(HK _ HL0).mono ?_;rintro e w1 ⟨rfl,hb1⟩;have HA1:=hide (obj_step HA0 hb1);have HB1:=hide (obj_step HB0 hb1);have HL1:=hide (HL0.trans (hb1.mono HL0.size));clear hb1 c0 c1 c2 c3 c4 c5 c6 c7 c8 d0 d1 d2 d3 d4 d5 d6 d7 d8;obtain⟨c0,c1,c2,c3,c4,c5,c6,c7,c8⟩:=nine HA1;obtain⟨d0,d1,d2,d3,d4,d5,d6,d7,d8⟩:=nine HB1;go_wp2_with fail;refine(HP _ HL1).mono ?_;rintro e w2 ⟨rfl,hb1⟩;have HA2:=hide (obj_step HA1 hb1);have HB2:=hide (obj_step HB1 hb1);have HL2:=hide (HL1.trans (hb1.mono HL1.size));clear hb1 c0 c1 c2 c3 c4 c5 c6 c7 c8 d0 d1 d2 d3 d4 d5 d6 d7 d8;obtain⟨c0,c1,c2,c3,c4,c5,c6,c7,c8⟩:=nine HA2;obtain⟨d0,d1,d2,d3,d4,d5,d6,d7,d8⟩:=nine HB2;go_wp2_with fail;refine(HO _ HL2).mono ?_;rintro e w3 ⟨rfl,hb1⟩;have HA3:=hide (obj_step HA2 hb1);have HB3:=hide (obj_step HB2 hb1);have HL3:=hide (HL2.trans (hb1.mono HL2.size));clear hb1 c0 c1 c2 c3 c4 c5 c6 c7 c8 d0 d1 d2 d3 d4 d5 d6 d7 d8;obtain⟨c0,c1,c2,c3,c4,c5,c6,c7,c8⟩:=nine HA3;obtain⟨d0,d1,d2,d3,d4,d5,d6,d7,d8⟩:=nine HB3;go_wp2_with fail;refine(HS _ HL3).mono ?_;rintro e w4 ⟨rfl,hb1⟩;have HA4:=hide (obj_step HA3 hb1);have HB4:=hide (obj_step HB3 hb1);have HL4:=hide (HL3.trans (hb1.mono HL3.size));clear hb1 c0 c1 c2 c3 c4 c5 c6 c7 c8 d0 d1 d2 d3 d4 d5 d6 d7 d8;obtain⟨c0,c1,c2,c3,c4,c5,c6,c7,c8⟩:=nine HA4;obtain⟨d0,d1,d2,d3,d4,d5,d6,d7,d8⟩:=nine HB4;go_wp2_with fail;refine(HR _ HL4).mono ?_;rintro e w5 ⟨rfl,hb1⟩;have HA5:=hide (obj_step HA4 hb1);have HB5:=hide (obj_step HB4 hb1);have HL5:=hide (HL4.trans (hb1.mono HL4.size));clear hb1 c0 c1 c2 c3 c4 c5 c6 c7 c8 d0 d1 d2 d3 d4 d5 d6 d7 d8;obtain⟨c0,c1,c2,c3,c4,c5,c6,c7,c8⟩:=nine HA5;obtain⟨d0,d1,d2,d3,d4,d5,d6,d7,d8⟩:=nine HB5;go_wp2_with fail;go_ret;exact⟨rfl,HL5⟩):P:=h
theorem Sa73.Ka23(h:P:=by
 dsimp only at HPL HPU HTO HNR HOT HRQ HD HBX ⊢;have hlo:=hz.o;have hlr:=hz.r;dsimp only at hlo hlr;clear ha hz;go_enter Try.func35,Try.ntmps35
 go_upto_region 1 with fail;open Sa61 in exact Ya19):P:=h
theorem Sa74.Ka23(h:P:=by
 dsimp only at hlo HD HCB HCL HLS HLB HKB HBX ⊢;generalize (fun s t:Rq=>ltB s.no t.no)=RR at *;cases h1:amB old
 case' false=>
  have HP:=hide (show TT=false by rw [unhide HD,h1];rfl)
  have H1:=hide (fun w1=>implAmB old false w1 h1)
  clear h1 HD
  go_enter Try.func57,Try.ntmps57
  go_wp2_with (go_at_call 70;refine(H1 _).mono ?_;rintro e w9 ⟨rfl,rfl⟩)
  go_ret
  exact⟨ret_bool HP.symm,below_one w _⟩
 have H1:=hide (fun w1=>implAmB old true w1 h1);have hold:0≤old∧old≤1000000000:=of_decide_eq_true h1;obtain⟨ho1,ho2⟩:=hold;by_cases h0:reqs.length≤30
 case' neg=>
  have HP:=hide (show TT=false by rw [unhide HD,decide_eq_false h0];simp)
  have hb0:decide ((30:Int) < reqs.length)=true:=decide_eq_true (by omega)
  clear h1 HD
  go_enter Try.func57,Try.ntmps57
  go_wp2_with (go_at_call 70;refine(H1 _).mono ?_;rintro e w9 ⟨rfl,rfl⟩)
  go_ret
  exact⟨ret_bool HP.symm,below_one w _⟩
 have hb0:decide ((30:Int) < reqs.length)=false:=decide_eq_false (by omega);have HOK:Hid (TT=chk KB RR reqs):=by rw [unhide HD,h1,decide_eq_true h0];rfl
 clear HD h1;go_enter Try.func57,Try.ntmps57
 go_wp2_with (go_at_call 70;refine(H1 _).mono ?_;rintro e w9 ⟨rfl,rfl⟩)
 go_loopw [3,21] (fun lv i wr=>∃(k:Nat) (y:Int),k≤reqs.length∧i= .int .i64 k∧lv= .int .i64 y∧y=lastI (fun s=>s.no) old (reqs.take k)∧chk KB RR (reqs.take k)=true∧wr.heap[w.heap.size]?=some (.cells (ndc ⟨id,par,kids,next,pu,out,seen,old,reqs⟩ ⟨ak,ap,ao,as',ar,ck,cp,co,cs,cr⟩) 42 (0,0))∧Below w.heap.size w wr) (fun _ i _=>reqs.length - (intOf i).toNat)
 case atStart=>exact⟨0,old,Nat.zero_le _,rfl,rfl,rfl,rfl,HBX,below_one w _⟩
 case round=>
  open Sa65 in exact Ya21):P:=h
theorem Sa75.Ka23(h:P:=by
 dsimp only at hlo HD HCB HCL HLS HLB HKB HNR HBX ⊢;generalize (fun s t:Snt=>ltB s.i t.i)=RR at *;by_cases h0:out.length≤40
 case' neg=>
  have HP:=hide (show TT=false by rw [unhide HD,decide_eq_false h0];rfl)
  have hb0:decide ((40:Int) < out.length)=true:=decide_eq_true (by omega)
  go_enter Try.func55,Try.ntmps55
  go_wp2_with fail
  go_ret
  exact⟨ret_bool HP.symm,below_one w _⟩
 have hb0:decide ((40:Int) < out.length)=false:=decide_eq_false (by omega);have HOK:Hid (TT=chk KB RR out):=by rw [unhide HD,decide_eq_true h0];rfl
 clear HD;go_enter Try.func55,Try.ntmps55
 go_wp2_with fail;go_loopw [3,13] (fun lv i wr=>∃(k:Nat) (y:Int),k≤out.length∧i= .int .i64 k∧lv= .int .i64 y∧y=lastI (fun s=>s.i) 0 (out.take k)∧chk KB RR (out.take k)=true∧wr.heap[w.heap.size]?=some (.cells (ndc ⟨id,par,kids,next,pu,out,seen,old,reqs⟩ ⟨ak,ap,ao,as',ar,ck,cp,co,cs,cr⟩) 42 (0,0))∧Below w.heap.size w wr) (fun _ i _=>out.length - (intOf i).toNat)
 case atStart=>exact⟨0,0,Nat.zero_le _,rfl,rfl,rfl,rfl,HBX,below_one w _⟩
 case round=>
  open Sa66 in exact Ya21):P:=h
theorem Sa76.Ka23(h:P:=by
 dsimp only at hl HC HBX HNB ⊢;clear ha;go_enter Try.func37,Try.ntmps37
 go_wp2_with fail;refine HC.mono ?_;rintro e w1 ⟨v,rfl,hown,hb1⟩;have HB1:=hide ((below_one w _).trans (hb1.mono (by simp)));have HO1:=hide (GR.own_lower (b':=w.heap.size) hown (by simp));obtain⟨c0,c1,_⟩:=nine (obj_step HBX hb1);clear hown hb1 HC;go_upto_if 9 with fail;go_cut [3] (fun r wx=>wx.ownsRow w.heap.size 3 1 r NB.length (GR.flat encNum NB)∧Below w.heap.size w wx)
 case first=>
  by_cases hp:par= -1
  ·have hb:(par != -1)=false:=by simp[hp]
   have HE:=hide (HNB.1 hp);clear hp;go_wp2_with fail;go_meet
   case rel=>exact⟨by rw [unhide HE];exact HO1,HB1⟩
  ·have hb:(par != -1)=true:=by simp[hp]
   have HE:=hide (HNB.2 hp);clear hp;have ho:=unhide HO1;go_wp2_with (at_builtin;refine wpList_append_own _ rfl _ _ 22 rfl w.heap.size 3 i0 (.int .i64 0) 1 8 Try.underlying22 hi hz0 hz1 hz2 rfl (by decide) _ _ _ rfl (ho.alloc _) ⟨w1.heap.size,0,none⟩ 1 1 [.int .i64 par] rfl rfl ?c1 ?c2 ?c3 ?c4 ?c5 ?_)
   case c1=>exact cell_one_new _ _ _
   case c2=>intro u hu;simp at hu;subst hu;rfl
   case c3=>unfold maxLen;omega
   case c4=>omega
   case c5=>have:=HB1.size;simp;omega
   intro v' w6 hown' hgrow _;have HB6:=hide (GR.below_append HB1 HB1.size ho hgrow)
   have HO6:Hid (w6.ownsRow w.heap.size 3 1 v' NB.length (GR.flat encNum NB)):=by
    rw [unhide HE,GR.flat_append,List.length_append];exact hown'
   clear hgrow ho hown';go_wp2_with fail;go_meet
   case rel=>exact⟨HO6,HB6⟩
 case rest=>
  obtain⟨ho,hb⟩:=hcut;have HS:=hide (sortOwn w.heap.size _ NB wc hln hb.size ho);have HB2:=hide hb;clear ho hb c0 c1;go_wp2_with fail;refine HS.mono ?_;rintro e w3 ⟨rfl,ho3,hb3⟩;have HO3:=hide ho3;have HB3:=hide (HB2.trans hb3);clear ho3 hb3;go_wp2_with fail;go_ret;exact⟨_,rfl,HO3,HB3⟩):P:=h
theorem Sa77.Ka23(h:P:=by
 dsimp only at HPL HPU HOT HSE HRE HD HBX ⊢;go_enter Try.func38,Try.ntmps38
 go_upto_region 1 with fail;open Sa62 in exact Ya19):P:=h
theorem Sa78.Ka23(h:P:=by
 dsimp only at hls HA HD HSK HNB HBX ⊢;go_enter Try.func56,Try.ntmps56
 go_wp2_with fail;refine HNB.mono ?_;rintro e w1 ⟨v,rfl,hown,hb1⟩;have HB1:=hide ((below_one w _).trans (hb1.mono (by simp)));have HBK1:=hide (obj_step HBX hb1);have hFL:=unhide HLS;subst hFL;obtain⟨fa,fc,rfl,hF⟩:=GR.own_at (enc:=encNum) (sz:=1) encNum_length hown;have HF:=hide hF;obtain⟨c0,c1,c2,c3,c4,c5,c6,c7,c8⟩:=nine HBK1;clear hown hb1 HNB HBX HLS hF;by_cases hlen:seen.length=F.length
 case' neg=>
  have hbn:((seen.length:Int) != (F.length:Int))=true:=by simp;omega
  have HP:=hide (show TT=false by
   rw [unhide HD,decide_eq_false (show¬seen.map (·.f)=F from fun h=>hlen (by rw [←h,List.length_map]))]
   rfl)
  clear HD
  go_wp2_with fail
  go_ret
  exact⟨ret_bool HP.symm,HB1⟩
 have hbn:((seen.length:Int) != (F.length:Int))=false:=by simp;omega
 have HLN:=hide hlen;clear hlen;go_wp2_with fail;go_loopw [17] (fun i wr=>∃k:Nat,k≤seen.length∧i= .int .i64 k∧(seen.take k).map (·.f)=F.take k∧(seen.take k).all snB=true∧Below w1.heap.size w1 wr) (fun i _=>seen.length - (intOf i).toNat)
 case atStart=>exact⟨0,Nat.zero_le _,rfl,rfl,rfl,Below.refl _ _⟩
 case round=>
  obtain⟨k,hk,rfl,hm,hall,hbx⟩:=hrel;have HM:=hide hm;have HALL:=hide hall;have HBX:=hide hbx;have HBK:=hide (obj_step HBK1 hbx);have HBL:=hide (HB1.trans (hbx.mono HB1.size));clear hm hall hbx;by_cases hlt:k < seen.length
  case' neg=>
   have hke:k=seen.length:=by omega
   subst hke
   have hnlt:decide ((seen.length:Int) < (seen.length:Int))=false:=by simp
   have HP:=hide (show TT=true by
    have h1:=unhide HM
    have h2:=unhide HALL
    rw [List.take_length] at h1 h2
    rw [unhide HLN,List.take_length] at h1
    rw [unhide HD,decide_eq_true h1,h2]
    rfl)
   go_wp2_with fail
   go_ret
   exact⟨ret_bool HP.symm,HBL⟩
  have hltF:k < F.length:=by rw [←unhide HLN];exact hlt
  obtain⟨g,off,b,c,e0,hgw,q0,q1,q2,hI⟩:=SeenAt.below (NodeAt.s HA) HBL k hlt;obtain⟨g2,off2,e2,hgw2,p0⟩:=IntsAt.one (GR.At.below HF HBX) k hltF;(try dsimp only at e0 q0 q1 q2 hI)
  subst e0 e2;have hids:=unhide HSK _ (List.getElem_mem hlt);have HI:=hide hI;have HST:=hide (fun h3 h4=>seen_step hlt HLN.symm HM HALL h3 h4);have HX1:=hide (fun h3=>seen_bad1 (F:=F) hlt HLN.symm h3);have HX2:=hide (fun h4=>seen_bad2 hlt h4);clear hI;generalize seen[k]=sk at *;generalize F[k]=y at *;obtain⟨fr,lo,ids⟩:=sk;dsimp only at q0 q1 q2 HI hids HST HX1 HX2;go_upto_region 7 with fail;open Sa85 in exact Ya27):P:=h
theorem Ya24(h:P:=by
 obtain⟨c0,c1,c2,c3,c4,c5,c6,c7,c8⟩:=nine HBK1;have k0:=cell_grown' c0;have k1:=cell_grown' c1;have k2:=cell_grown' c2;have k3:=cell_grown' c3;have k4:=cell_grown' c4;have k5:=cell_grown' c5;have k6:=cell_grown' c6;have k7:=cell_grown' c7;have k8:=cell_grown' c8;have m0:=cell_grown' d0;have m1:=cell_grown' d1;have m2:=cell_grown' d2;exact Ka24):P:=h
theorem Sa79.Ka24(h:P:=by
 go_cut [64] (fun r wx=>r= .bool bb∧Below W1.heap.size W1 wx)
 case first=>
  rcases HPK1 with⟨rfl,rfl⟩|⟨j,y,rfl,rfl,q1⟩
  ·have hgt:decide ((0:Int) < ((0:Nat):Int))=false:=rfl;open Sa44 in exact Ya14
  ·have hgt:decide ((0:Int) < ((j+1:Nat):Int))=true:=decide_eq_true (by omega);have m3:=cell_grown' q1;open Sa43 in exact Ya14
 case rest=>
  obtain⟨rfl,hbx⟩:=hcut;have HW2:=hide (obj_step HW1 hbx);open Sa11 in exact Ya4):P:=h
theorem Sa80.Ka24(h:P:=by
 have m3:=cell_grown' d3;have en:IntKind.i64.wrap (old+1)=old+1:=IntWalk.i64_in _ ⟨by omega,by omega⟩;go_cut [151] (fun r wx=>r= .bool bb∧Below W1.heap.size W1 wx)
 case first=>
  rcases HPK1 with⟨rfl,rfl⟩|⟨j,y,rfl,rfl,q1⟩
  ·have hgt:decide ((0:Int) < ((0:Nat):Int))=false:=rfl;open Sa1 in exact Ya0
  ·have hgt:decide ((0:Int) < ((j+1:Nat):Int))=true:=decide_eq_true (by omega);have m9:=cell_grown' q1;open Sa0 in exact Ya0
 case rest=>
  obtain⟨rfl,hbx⟩:=hcut;open Sa12 in exact Ya4):P:=h
theorem Ya25(h:P:=by
 have cO:∀d os,Calls Try.prog 66 #[puv ⟨pk,pm,pf,ps⟩] (Sort.grow (redrawn V d) os) fun e w''=>e= .returned (.bool true)∧∃p:Regrown,w''=Sort.grow (redrawn V p.d) p.os:=fun d os=>Calls.regrown_of (HO _)
 exact Ka25):P:=h
theorem Sa81.Ka25(h:P:=by
 exact Ka20):P:=h
theorem Sa82.Ka25(h:P:=by
 open Sa87 in exact Ya28):P:=h
theorem Ya26(h:P:=by
 obtain⟨g,off,e0,hgw,q0,q1,q2,q3⟩:=ReqAt.four (HA.below HBL).r k hlt;(try dsimp only at e0 q0 q1 q2 q3)
 exact Ka26):P:=h
theorem Sa83.Ka26(h:P:=by
 subst e0;have HBAD:Hid (chk KB RR (reqs.take (k+1))=false→TT=false):=fun h=>HOK.trans (HCB _ h)
 have HNX:Hid (chk KB RR (reqs.take (k+1))=(KB reqs[k]&&decide (y < (reqs[k]).no))):=by
  exact Za37
 have HLN:=hide (HLS k hlt);have HKX:=hide (HKB reqs[k]);clear HCL HLS HCB HKB HLB;generalize reqs[k]=sk at *;generalize KB sk=OB at *;obtain⟨si,sx,sn,st⟩:=sk;dsimp only at q0 q1 q2 q3 HNX HLN HKX;obtain⟨bb,hbb⟩:∃bb,(!(decide (y < si)&&amB si&&keyOk sx.data.toList&&smB sn&&decide (0≤st)&&decide (st≤2)))=bb:=⟨_,rfl⟩;have HBB:=hide hbb
 have HVB:Hid (chk KB RR (reqs.take (k+1))= !bb):=by
  rw [unhide HNX,←unhide HBB,unhide HKX,Bool.not_not]
  have e1:(decide (old+1≤si∧si≤1000000000)&&decide (y < si))=(decide (y < si)&&amB si):=by
   rw [Bool.eq_iff_iff];unfold amB;exact Za36
  have e2:decide (0≤st∧st≤2)=(decide (0≤st)&&decide (st≤2)):=by
   rw [Bool.eq_iff_iff];simp only[Bool.and_eq_true,decide_eq_true_eq]
  rw [←e1,e2];generalize decide (old+1≤si∧si≤1000000000)=z1;generalize decide (y < si)=z2;generalize decide (0≤st)=z3;generalize decide (st≤2)=z6;generalize keyOk sx.data.toList=z4;generalize smB sn=z5;cases z1<;>cases z2<;>cases z3<;>cases z4<;>cases z5<;>cases z6<;>exact hide rfl
 clear hbb HNX HKX;go_upto_region 7 with fail;open Sa46 in exact Ya15):P:=h
end Go.Proofs.Ytheiblbhlmaphaa
