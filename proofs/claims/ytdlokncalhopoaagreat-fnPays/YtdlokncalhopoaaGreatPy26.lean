/- Parts. -/
import Derived.Test.YtdlokncalhopoaaGreatPy1
namespace Go.Proofs.YtdlokncalhopoaaGreat
set_option maxHeartbeats 2000000
set_option maxRecDepth 100000
open Go.RowKit
open Mth
theorem specMsgOk_route (K F T I L:Int) (k:ByteArray) (N:Int) (w:World) (_hs:k.size≤maxLen) (hr:rtB F T=false):Calls Tryz.prog 63 #[mgv ⟨K,F,T,I,L,k,N⟩] w fun e w'=>e= .returned (.bool (mgOk ⟨K,F,T,I,L,k,N⟩))∧Below w.heap.size w w':=by
 cases h1:ndB F
 case' false=>
  have HP:=hide (show mgOk ⟨K,F,T,I,L,k,N⟩=false by simp[mgOk,rtB,h1])
  have H1:=hide (fun w1=>l04Node F false w1 h1)
  clear h1 hr
  go_enter Tryz.func63,Tryz.ntmps63
  go_wp2_with (first|(go_at_call_of 40 F;refine(unhide H1 _).mono ?_;rintro e w1 ⟨rfl,rfl⟩))
  go_ret
  exact⟨ret_bool (unhide HP).symm,below_one w _⟩
 have H1:=hide (fun w1=>l04Node F true w1 h1)
 cases h2:ndB T
 case' false=>
  have HP:=hide (show mgOk ⟨K,F,T,I,L,k,N⟩=false by simp[mgOk,rtB,h2])
  have H2:=hide (fun w1=>l04Node T false w1 h2)
  clear h1 h2 hr
  go_enter Tryz.func63,Tryz.ntmps63
  go_wp2_with (first|(go_at_call_of 40 F;refine(unhide H1 _).mono ?_;rintro e w1 ⟨rfl,rfl⟩)|(go_at_call_of 40 T;refine(unhide H2 _).mono ?_;rintro e w1 ⟨rfl,rfl⟩))
  go_ret
  exact⟨ret_bool (unhide HP).symm,below_one w _⟩
 have H2:=hide (fun w1=>l04Node T true w1 h2)
 have hft:F=T:=by
  rcases Decidable.em (F=T) with h|h
  ·exact h
  ·simp[rtB,h1,h2,h] at hr
 have HP:=hide (show mgOk ⟨K,F,T,I,L,k,N⟩=false by simp[mgOk,rtB,hft])
 clear h1 h2 hr
 subst hft
 go_enter Tryz.func63,Tryz.ntmps63
 go_wp2_with (first|(go_at_call_of 40 F;refine(unhide H1 _).mono ?_;rintro e w1 ⟨rfl,rfl⟩))
 go_ret
 exact⟨ret_bool (unhide HP).symm,below_one w _⟩
theorem specMsgOk_want (_K F T I L:Int) (k:ByteArray) (N:Int) (w:World) (hs:k.size≤maxLen) (hr:rtB F T=true):Calls Tryz.prog 63 #[mgv ⟨0,F,T,I,L,k,N⟩] w fun e w'=>e= .returned (.bool (mgOk ⟨0,F,T,I,L,k,N⟩))∧Below w.heap.size w w':=by
 have h1:ndB F=true:=by unfold rtB at hr;simp only[Bool.and_eq_true] at hr;exact hr.1.1
 have h2:ndB T=true:=by unfold rtB at hr;simp only[Bool.and_eq_true] at hr;exact hr.1.2
 have hft:¬F=T:=by unfold rtB at hr;simp only[Bool.and_eq_true,decide_eq_true_iff] at hr;exact hr.2
 have H1:=hide (fun w1=>l04Node F true w1 h1)
 have H2:=hide (fun w1=>l04Node T true w1 h2)
 clear h1 h2
 cases hc2:keyOk k.data.toList
 case' false=>
  have HP:=hide (show mgOk ⟨0,F,T,I,L,k,N⟩=false by simp[mgOk,hr,hc2])
  have HC2:=hide (fun w1=>specKeyB k false w1 hs hc2)
  clear hr hc2
  go_enter Tryz.func63,Tryz.ntmps63
  go_wp2_with (first|(go_at_call_of 40 F;refine(unhide H1 _).mono ?_;rintro e w1 ⟨rfl,rfl⟩)|(go_at_call_of 40 T;refine(unhide H2 _).mono ?_;rintro e w1 ⟨rfl,rfl⟩)|(go_at_call_of 23 k;refine(unhide HC2 _).mono ?_;rintro e w1 ⟨rfl,rfl⟩))
  go_ret
  exact⟨ret_bool (unhide HP).symm,below_one w _⟩
 have HC2:=hide (fun w1=>specKeyB k true w1 hs hc2)
 cases hc3:smB N
 case' false=>
  have HP:=hide (show mgOk ⟨0,F,T,I,L,k,N⟩=false by simp[mgOk,hr,hc2,hc3])
  have HC3:=hide (fun w1=>l04Some N false w1 hc3)
  clear hr hc2 hc3
  go_enter Tryz.func63,Tryz.ntmps63
  go_wp2_with (first|(go_at_call_of 40 F;refine(unhide H1 _).mono ?_;rintro e w1 ⟨rfl,rfl⟩)|(go_at_call_of 40 T;refine(unhide H2 _).mono ?_;rintro e w1 ⟨rfl,rfl⟩)|(go_at_call_of 23 k;refine(unhide HC2 _).mono ?_;rintro e w1 ⟨rfl,rfl⟩)|(go_at_call_of 19 N;refine(unhide HC3 _).mono ?_;rintro e w1 ⟨rfl,rfl⟩))
  go_ret
  exact⟨ret_bool (unhide HP).symm,below_one w _⟩
 have HC3:=hide (fun w1=>l04Some N true w1 hc3)
 by_cases hzI:I=0
 case' neg=>
  have HP:=hide (show mgOk ⟨0,F,T,I,L,k,N⟩=false by simp[mgOk,hr,hc2,hc3,hzI])
  have he:(I == 0)=false:=by simp[hzI]
  clear hr hc2 hc3
  go_enter Tryz.func63,Tryz.ntmps63
  go_wp2_with (first|(go_at_call_of 40 F;refine(unhide H1 _).mono ?_;rintro e w1 ⟨rfl,rfl⟩)|(go_at_call_of 40 T;refine(unhide H2 _).mono ?_;rintro e w1 ⟨rfl,rfl⟩)|(go_at_call_of 23 k;refine(unhide HC2 _).mono ?_;rintro e w1 ⟨rfl,rfl⟩)|(go_at_call_of 19 N;refine(unhide HC3 _).mono ?_;rintro e w1 ⟨rfl,rfl⟩))
  go_ret
  exact⟨ret_bool (by first|exact(unhide HP).symm|exact he.trans (unhide HP).symm),below_one w _⟩
 subst hzI
 by_cases hzL:L=0
 case' neg=>
  have HP:=hide (show mgOk ⟨0,F,T,0,L,k,N⟩=false by simp[mgOk,hr,hc2,hc3,hzL])
  have he:(L == 0)=false:=by simp[hzL]
  clear hr hc2 hc3
  go_enter Tryz.func63,Tryz.ntmps63
  go_wp2_with (first|(go_at_call_of 40 F;refine(unhide H1 _).mono ?_;rintro e w1 ⟨rfl,rfl⟩)|(go_at_call_of 40 T;refine(unhide H2 _).mono ?_;rintro e w1 ⟨rfl,rfl⟩)|(go_at_call_of 23 k;refine(unhide HC2 _).mono ?_;rintro e w1 ⟨rfl,rfl⟩)|(go_at_call_of 19 N;refine(unhide HC3 _).mono ?_;rintro e w1 ⟨rfl,rfl⟩))
  go_ret
  exact⟨ret_bool (by first|exact(unhide HP).symm|exact he.trans (unhide HP).symm),below_one w _⟩
 subst hzL
 have HP:=hide (show mgOk ⟨0,F,T,0,0,k,N⟩=true by simp[mgOk,hr,hc2,hc3])
 clear hr hc2 hc3
 go_enter Tryz.func63,Tryz.ntmps63
 go_wp2_with (first|(go_at_call_of 40 F;refine(unhide H1 _).mono ?_;rintro e w1 ⟨rfl,rfl⟩)|(go_at_call_of 40 T;refine(unhide H2 _).mono ?_;rintro e w1 ⟨rfl,rfl⟩)|(go_at_call_of 23 k;refine(unhide HC2 _).mono ?_;rintro e w1 ⟨rfl,rfl⟩)|(go_at_call_of 19 N;refine(unhide HC3 _).mono ?_;rintro e w1 ⟨rfl,rfl⟩))
 go_ret
 exact⟨ret_bool (unhide HP).symm,below_one w _⟩
theorem specMsgOk_pay (_K F T I L:Int) (k:ByteArray) (N:Int) (w:World) (hs:k.size≤maxLen) (hr:rtB F T=true):Calls Tryz.prog 63 #[mgv ⟨1,F,T,I,L,k,N⟩] w fun e w'=>e= .returned (.bool (mgOk ⟨1,F,T,I,L,k,N⟩))∧Below w.heap.size w w':=by
 have h1:ndB F=true:=by unfold rtB at hr;simp only[Bool.and_eq_true] at hr;exact hr.1.1
 have h2:ndB T=true:=by unfold rtB at hr;simp only[Bool.and_eq_true] at hr;exact hr.1.2
 have hft:¬F=T:=by unfold rtB at hr;simp only[Bool.and_eq_true,decide_eq_true_iff] at hr;exact hr.2
 have H1:=hide (fun w1=>l04Node F true w1 h1)
 have H2:=hide (fun w1=>l04Node T true w1 h2)
 clear h1 h2
 cases hc2:keyOk k.data.toList
 case' false=>
  have HP:=hide (show mgOk ⟨1,F,T,I,L,k,N⟩=false by simp[mgOk,hr,hc2])
  have HC2:=hide (fun w1=>specKeyB k false w1 hs hc2)
  clear hr hc2
  go_enter Tryz.func63,Tryz.ntmps63
  go_wp2_with (first|(go_at_call_of 40 F;refine(unhide H1 _).mono ?_;rintro e w1 ⟨rfl,rfl⟩)|(go_at_call_of 40 T;refine(unhide H2 _).mono ?_;rintro e w1 ⟨rfl,rfl⟩)|(go_at_call_of 23 k;refine(unhide HC2 _).mono ?_;rintro e w1 ⟨rfl,rfl⟩))
  go_ret
  exact⟨ret_bool (unhide HP).symm,below_one w _⟩
 have HC2:=hide (fun w1=>specKeyB k true w1 hs hc2)
 cases hc3:smB N
 case' false=>
  have HP:=hide (show mgOk ⟨1,F,T,I,L,k,N⟩=false by simp[mgOk,hr,hc2,hc3])
  have HC3:=hide (fun w1=>l04Some N false w1 hc3)
  clear hr hc2 hc3
  go_enter Tryz.func63,Tryz.ntmps63
  go_wp2_with (first|(go_at_call_of 40 F;refine(unhide H1 _).mono ?_;rintro e w1 ⟨rfl,rfl⟩)|(go_at_call_of 40 T;refine(unhide H2 _).mono ?_;rintro e w1 ⟨rfl,rfl⟩)|(go_at_call_of 23 k;refine(unhide HC2 _).mono ?_;rintro e w1 ⟨rfl,rfl⟩)|(go_at_call_of 19 N;refine(unhide HC3 _).mono ?_;rintro e w1 ⟨rfl,rfl⟩))
  go_ret
  exact⟨ret_bool (unhide HP).symm,below_one w _⟩
 have HC3:=hide (fun w1=>l04Some N true w1 hc3)
 cases hc4:smB I
 case' false=>
  have HP:=hide (show mgOk ⟨1,F,T,I,L,k,N⟩=false by simp[mgOk,hr,hc2,hc3,hc4])
  have HC4:=hide (fun w1=>l04Some I false w1 hc4)
  clear hr hc2 hc3 hc4
  go_enter Tryz.func63,Tryz.ntmps63
  go_wp2_with (first|(go_at_call_of 40 F;refine(unhide H1 _).mono ?_;rintro e w1 ⟨rfl,rfl⟩)|(go_at_call_of 40 T;refine(unhide H2 _).mono ?_;rintro e w1 ⟨rfl,rfl⟩)|(go_at_call_of 23 k;refine(unhide HC2 _).mono ?_;rintro e w1 ⟨rfl,rfl⟩)|(go_at_call_of 19 N;refine(unhide HC3 _).mono ?_;rintro e w1 ⟨rfl,rfl⟩)|(go_at_call_of 19 I;refine(unhide HC4 _).mono ?_;rintro e w1 ⟨rfl,rfl⟩))
  go_ret
  exact⟨ret_bool (unhide HP).symm,below_one w _⟩
 have HC4:=hide (fun w1=>l04Some I true w1 hc4)
 cases hc5:decide (1≤L∧L≤I)
 case' false=>
  have HP:=hide (show mgOk ⟨1,F,T,I,L,k,N⟩=false by simp[mgOk,hr,hc2,hc3,hc4,hc5])
  have HC5:=hide (fun w1=>l01InR L 1 I false w1 hc5)
  clear hr hc2 hc3 hc4 hc5
  go_enter Tryz.func63,Tryz.ntmps63
  go_wp2_with (first|(go_at_call_of 40 F;refine(unhide H1 _).mono ?_;rintro e w1 ⟨rfl,rfl⟩)|(go_at_call_of 40 T;refine(unhide H2 _).mono ?_;rintro e w1 ⟨rfl,rfl⟩)|(go_at_call_of 23 k;refine(unhide HC2 _).mono ?_;rintro e w1 ⟨rfl,rfl⟩)|(go_at_call_of 19 N;refine(unhide HC3 _).mono ?_;rintro e w1 ⟨rfl,rfl⟩)|(go_at_call_of 19 I;refine(unhide HC4 _).mono ?_;rintro e w1 ⟨rfl,rfl⟩)|(go_at_call 21;refine(unhide HC5 _).mono ?_;rintro e w1 ⟨rfl,rfl⟩))
  go_ret
  exact⟨ret_bool (unhide HP).symm,below_one w _⟩
 have HC5:=hide (fun w1=>l01InR L 1 I true w1 hc5)
 have HP:=hide (show mgOk ⟨1,F,T,I,L,k,N⟩=true by simp[mgOk,hr,hc2,hc3,hc4,hc5])
 clear hr hc2 hc3 hc4 hc5
 go_enter Tryz.func63,Tryz.ntmps63
 go_wp2_with (first|(go_at_call_of 40 F;refine(unhide H1 _).mono ?_;rintro e w1 ⟨rfl,rfl⟩)|(go_at_call_of 40 T;refine(unhide H2 _).mono ?_;rintro e w1 ⟨rfl,rfl⟩)|(go_at_call_of 23 k;refine(unhide HC2 _).mono ?_;rintro e w1 ⟨rfl,rfl⟩)|(go_at_call_of 19 N;refine(unhide HC3 _).mono ?_;rintro e w1 ⟨rfl,rfl⟩)|(go_at_call_of 19 I;refine(unhide HC4 _).mono ?_;rintro e w1 ⟨rfl,rfl⟩)|(go_at_call 21;refine(unhide HC5 _).mono ?_;rintro e w1 ⟨rfl,rfl⟩))
 go_ret
 exact⟨ret_bool (unhide HP).symm,below_one w _⟩
theorem specMsgOk_ack (_K F T I L:Int) (k:ByteArray) (N:Int) (w:World) (hs:k.size≤maxLen) (hr:rtB F T=true):Calls Tryz.prog 63 #[mgv ⟨2,F,T,I,L,k,N⟩] w fun e w'=>e= .returned (.bool (mgOk ⟨2,F,T,I,L,k,N⟩))∧Below w.heap.size w w':=by
 have h1:ndB F=true:=by unfold rtB at hr;simp only[Bool.and_eq_true] at hr;exact hr.1.1
 have h2:ndB T=true:=by unfold rtB at hr;simp only[Bool.and_eq_true] at hr;exact hr.1.2
 have hft:¬F=T:=by unfold rtB at hr;simp only[Bool.and_eq_true,decide_eq_true_iff] at hr;exact hr.2
 have H1:=hide (fun w1=>l04Node F true w1 h1)
 have H2:=hide (fun w1=>l04Node T true w1 h2)
 clear h1 h2
 cases hc2:smB I
 case' false=>
  have HP:=hide (show mgOk ⟨2,F,T,I,L,k,N⟩=false by simp[mgOk,hr,hc2])
  have HC2:=hide (fun w1=>l04Some I false w1 hc2)
  clear hr hc2
  go_enter Tryz.func63,Tryz.ntmps63
  go_wp2_with (first|(go_at_call_of 40 F;refine(unhide H1 _).mono ?_;rintro e w1 ⟨rfl,rfl⟩)|(go_at_call_of 40 T;refine(unhide H2 _).mono ?_;rintro e w1 ⟨rfl,rfl⟩)|(go_at_call_of 19 I;refine(unhide HC2 _).mono ?_;rintro e w1 ⟨rfl,rfl⟩))
  go_ret
  exact⟨ret_bool (unhide HP).symm,below_one w _⟩
 have HC2:=hide (fun w1=>l04Some I true w1 hc2)
 by_cases hz:k.size=0
 case' neg=>
  have hne:k.toList.isEmpty=false:=not_empty k (by omega)
  have HP:=hide (show mgOk ⟨2,F,T,I,L,k,N⟩=false by simp[mgOk,hr,hc2,hz])
  clear hr hc2
  go_enter Tryz.func63,Tryz.ntmps63
  go_wp2_with (first|(go_at_call_of 40 F;refine(unhide H1 _).mono ?_;rintro e w1 ⟨rfl,rfl⟩)|(go_at_call_of 40 T;refine(unhide H2 _).mono ?_;rintro e w1 ⟨rfl,rfl⟩)|(go_at_call_of 19 I;refine(unhide HC2 _).mono ?_;rintro e w1 ⟨rfl,rfl⟩))
  go_ret
  exact⟨ret_bool (unhide HP).symm,below_one w _⟩
 obtain rfl:=eq_empty k hz
 by_cases hzN:N=0
 case' neg=>
  have HP:=hide (show mgOk ⟨2,F,T,I,L,ByteArray.empty,N⟩=false by simp[mgOk,hr,hc2,hz,hzN])
  have he:(N == 0)=false:=by simp[hzN]
  clear hr hc2
  go_enter Tryz.func63,Tryz.ntmps63
  go_wp2_with (first|(go_at_call_of 40 F;refine(unhide H1 _).mono ?_;rintro e w1 ⟨rfl,rfl⟩)|(go_at_call_of 40 T;refine(unhide H2 _).mono ?_;rintro e w1 ⟨rfl,rfl⟩)|(go_at_call_of 19 I;refine(unhide HC2 _).mono ?_;rintro e w1 ⟨rfl,rfl⟩))
  go_ret
  exact⟨ret_bool (by first|exact(unhide HP).symm|exact he.trans (unhide HP).symm),below_one w _⟩
 subst hzN
 by_cases hzL:L=0
 case' neg=>
  have HP:=hide (show mgOk ⟨2,F,T,I,L,ByteArray.empty,0⟩=false by simp[mgOk,hr,hc2,hz,hzL])
  have he:(L == 0)=false:=by simp[hzL]
  clear hr hc2
  go_enter Tryz.func63,Tryz.ntmps63
  go_wp2_with (first|(go_at_call_of 40 F;refine(unhide H1 _).mono ?_;rintro e w1 ⟨rfl,rfl⟩)|(go_at_call_of 40 T;refine(unhide H2 _).mono ?_;rintro e w1 ⟨rfl,rfl⟩)|(go_at_call_of 19 I;refine(unhide HC2 _).mono ?_;rintro e w1 ⟨rfl,rfl⟩))
  go_ret
  exact⟨ret_bool (by first|exact(unhide HP).symm|exact he.trans (unhide HP).symm),below_one w _⟩
 subst hzL
 have HP:=hide (show mgOk ⟨2,F,T,I,0,ByteArray.empty,0⟩=true by simp[mgOk,hr,hc2,hz])
 clear hr hc2
 go_enter Tryz.func63,Tryz.ntmps63
 go_wp2_with (first|(go_at_call_of 40 F;refine(unhide H1 _).mono ?_;rintro e w1 ⟨rfl,rfl⟩)|(go_at_call_of 40 T;refine(unhide H2 _).mono ?_;rintro e w1 ⟨rfl,rfl⟩)|(go_at_call_of 19 I;refine(unhide HC2 _).mono ?_;rintro e w1 ⟨rfl,rfl⟩))
 go_ret
 exact⟨ret_bool (unhide HP).symm,below_one w _⟩
theorem specMsgOk_else (K F T I L:Int) (k:ByteArray) (N:Int) (w:World) (_hs:k.size≤maxLen) (hr:rtB F T=true) (k0:¬K=0) (k1:¬K=1) (k2:¬K=2):Calls Tryz.prog 63 #[mgv ⟨K,F,T,I,L,k,N⟩] w fun e w'=>e= .returned (.bool (mgOk ⟨K,F,T,I,L,k,N⟩))∧Below w.heap.size w w':=by
 have h1:ndB F=true:=by unfold rtB at hr;simp only[Bool.and_eq_true] at hr;exact hr.1.1
 have h2:ndB T=true:=by unfold rtB at hr;simp only[Bool.and_eq_true] at hr;exact hr.1.2
 have hft:¬F=T:=by unfold rtB at hr;simp only[Bool.and_eq_true,decide_eq_true_iff] at hr;exact hr.2
 have H1:=hide (fun w1=>l04Node F true w1 h1)
 have H2:=hide (fun w1=>l04Node T true w1 h2)
 clear h1 h2
 have HP:=hide (show mgOk ⟨K,F,T,I,L,k,N⟩=false by simp[mgOk,hr,k0,k1,k2])
 clear hr
 go_enter Tryz.func63,Tryz.ntmps63
 go_wp2_with (first|(go_at_call_of 40 F;refine(unhide H1 _).mono ?_;rintro e w1 ⟨rfl,rfl⟩)|(go_at_call_of 40 T;refine(unhide H2 _).mono ?_;rintro e w1 ⟨rfl,rfl⟩))
 go_ret
 exact⟨ret_bool (unhide HP).symm,below_one w _⟩
theorem specMsgOk (m:Mg) (w:World) (hs:m.k.size≤maxLen):Calls Tryz.prog 63 #[mgv m] w fun e w'=>e= .returned (.bool (mgOk m))∧Below w.heap.size w w':=by
 obtain⟨K,F,T,I,L,k,N⟩:=m
 cases hr:rtB F T
 ·exact specMsgOk_route K F T I L k N w hs hr
 by_cases k0:K=0
 ·subst k0;exact specMsgOk_want 0 F T I L k N w hs hr
 by_cases k1:K=1
 ·subst k1;exact specMsgOk_pay 0 F T I L k N w hs hr
 by_cases k2:K=2
 ·subst k2;exact specMsgOk_ack 0 F T I L k N w hs hr
 exact specMsgOk_else K F T I L k N w hs hr k0 k1 k2
end Go.Proofs.YtdlokncalhopoaaGreat
