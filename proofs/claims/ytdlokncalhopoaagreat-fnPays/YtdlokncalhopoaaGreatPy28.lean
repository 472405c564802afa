/- Parts. -/
import Derived.Test.YtdlokncalhopoaaGreatPy21
import Derived.Test.YtdlokncalhopoaaGreatPy26
import Derived.Test.YtdlokncalhopoaaGreatPy27
import Derived.Test.YtdlokncalhopoaaGreatPy6
namespace Go.Proofs.YtdlokncalhopoaaGreat
set_option maxHeartbeats 4000000
set_option maxRecDepth 100000
open Go.RowKit
open Mth
theorem specOpOk_mint (no:Int) (k:ByteArray) (n:Int) (m:Mg) (w:World) (hs:k.size≤maxLen):Calls Tryz.prog 45 #[opw ⟨0,no,k,n,m⟩] w fun e w'=>e= .returned (.bool (opOk ⟨0,no,k,n,m⟩))∧Below w.heap.size w w':=by
 obtain⟨mK,mF,mT,mI,mL,mk,mN⟩:=m
 obtain⟨R,hR⟩:∃R,opOk ⟨0,no,k,n,⟨mK,mF,mT,mI,mL,mk,mN⟩⟩=R:=⟨_,rfl⟩
 rw [hR]
 have HR:=hide hR
 clear hR
 cases hk:keyOk k.data.toList
 ·have HK:=hide (fun w1=>specKeyB k false w1 hs hk)
  cases hn:smB n
  ·have HN:=hide (fun w1=>l04Some n false w1 hn)
   have HP:=hide (show R=(decide (no=0)&&false&&false&&zmB ⟨mK,mF,mT,mI,mL,mk,mN⟩) by rw [←unhide HR];simp[opOk,hk,hn])
   clear HR
   clear hk hn
   go_enter Tryz.func45,Tryz.ntmps45
   go_wp2_with (first|(go_at_call_of 23 k;refine(unhide HK _).mono ?_;rintro e w1 ⟨rfl,rfl⟩)|(go_at_call_of 19 n;refine(unhide HN _).mono ?_;rintro e w1 ⟨rfl,rfl⟩))
   all_goals
    go_ret
    refine⟨ret_bool ?_,below_one w _⟩
    rw [unhide HP]
    simp[zmB, *]
  ·have HN:=hide (fun w1=>l04Some n true w1 hn)
   have HP:=hide (show R=(decide (no=0)&&false&&true&&zmB ⟨mK,mF,mT,mI,mL,mk,mN⟩) by rw [←unhide HR];simp[opOk,hk,hn])
   clear HR
   clear hk hn
   go_enter Tryz.func45,Tryz.ntmps45
   go_wp2_with (first|(go_at_call_of 23 k;refine(unhide HK _).mono ?_;rintro e w1 ⟨rfl,rfl⟩)|(go_at_call_of 19 n;refine(unhide HN _).mono ?_;rintro e w1 ⟨rfl,rfl⟩))
   all_goals
    go_ret
    refine⟨ret_bool ?_,below_one w _⟩
    rw [unhide HP]
    simp[zmB, *]
 ·have HK:=hide (fun w1=>specKeyB k true w1 hs hk)
  cases hn:smB n
  ·have HN:=hide (fun w1=>l04Some n false w1 hn)
   have HP:=hide (show R=(decide (no=0)&&true&&false&&zmB ⟨mK,mF,mT,mI,mL,mk,mN⟩) by rw [←unhide HR];simp[opOk,hk,hn])
   clear HR
   clear hk hn
   go_enter Tryz.func45,Tryz.ntmps45
   go_wp2_with (first|(go_at_call_of 23 k;refine(unhide HK _).mono ?_;rintro e w1 ⟨rfl,rfl⟩)|(go_at_call_of 19 n;refine(unhide HN _).mono ?_;rintro e w1 ⟨rfl,rfl⟩))
   all_goals
    go_ret
    refine⟨ret_bool ?_,below_one w _⟩
    rw [unhide HP]
    simp[zmB, *]
  ·have HN:=hide (fun w1=>l04Some n true w1 hn)
   have HP:=hide (show R=(decide (no=0)&&true&&true&&zmB ⟨mK,mF,mT,mI,mL,mk,mN⟩) by rw [←unhide HR];simp[opOk,hk,hn])
   clear HR
   clear hk hn
   go_enter Tryz.func45,Tryz.ntmps45
   go_wp2_with (first|(go_at_call_of 23 k;refine(unhide HK _).mono ?_;rintro e w1 ⟨rfl,rfl⟩)|(go_at_call_of 19 n;refine(unhide HN _).mono ?_;rintro e w1 ⟨rfl,rfl⟩))
   all_goals
    go_ret
    refine⟨ret_bool ?_,below_one w _⟩
    rw [unhide HP]
    simp[zmB, *]
theorem specOpOk_want (no:Int) (k:ByteArray) (n:Int) (m:Mg) (w:World) (hs:k.size≤maxLen):Calls Tryz.prog 45 #[opw ⟨3,no,k,n,m⟩] w fun e w'=>e= .returned (.bool (opOk ⟨3,no,k,n,m⟩))∧Below w.heap.size w w':=by
 obtain⟨mK,mF,mT,mI,mL,mk,mN⟩:=m
 obtain⟨R,hR⟩:∃R,opOk ⟨3,no,k,n,⟨mK,mF,mT,mI,mL,mk,mN⟩⟩=R:=⟨_,rfl⟩
 rw [hR]
 have HR:=hide hR
 clear hR
 cases hk:keyOk k.data.toList
 ·have HK:=hide (fun w1=>specKeyB k false w1 hs hk)
  cases hn:smB n
  ·have HN:=hide (fun w1=>l04Some n false w1 hn)
   have HP:=hide (show R=(decide (no=0)&&false&&false&&zmB ⟨mK,mF,mT,mI,mL,mk,mN⟩) by rw [←unhide HR];simp[opOk,hk,hn])
   clear HR
   clear hk hn
   go_enter Tryz.func45,Tryz.ntmps45
   go_wp2_with (first|(go_at_call_of 23 k;refine(unhide HK _).mono ?_;rintro e w1 ⟨rfl,rfl⟩)|(go_at_call_of 19 n;refine(unhide HN _).mono ?_;rintro e w1 ⟨rfl,rfl⟩))
   all_goals
    go_ret
    refine⟨ret_bool ?_,below_one w _⟩
    rw [unhide HP]
    simp[zmB, *]
  ·have HN:=hide (fun w1=>l04Some n true w1 hn)
   have HP:=hide (show R=(decide (no=0)&&false&&true&&zmB ⟨mK,mF,mT,mI,mL,mk,mN⟩) by rw [←unhide HR];simp[opOk,hk,hn])
   clear HR
   clear hk hn
   go_enter Tryz.func45,Tryz.ntmps45
   go_wp2_with (first|(go_at_call_of 23 k;refine(unhide HK _).mono ?_;rintro e w1 ⟨rfl,rfl⟩)|(go_at_call_of 19 n;refine(unhide HN _).mono ?_;rintro e w1 ⟨rfl,rfl⟩))
   all_goals
    go_ret
    refine⟨ret_bool ?_,below_one w _⟩
    rw [unhide HP]
    simp[zmB, *]
 ·have HK:=hide (fun w1=>specKeyB k true w1 hs hk)
  cases hn:smB n
  ·have HN:=hide (fun w1=>l04Some n false w1 hn)
   have HP:=hide (show R=(decide (no=0)&&true&&false&&zmB ⟨mK,mF,mT,mI,mL,mk,mN⟩) by rw [←unhide HR];simp[opOk,hk,hn])
   clear HR
   clear hk hn
   go_enter Tryz.func45,Tryz.ntmps45
   go_wp2_with (first|(go_at_call_of 23 k;refine(unhide HK _).mono ?_;rintro e w1 ⟨rfl,rfl⟩)|(go_at_call_of 19 n;refine(unhide HN _).mono ?_;rintro e w1 ⟨rfl,rfl⟩))
   all_goals
    go_ret
    refine⟨ret_bool ?_,below_one w _⟩
    rw [unhide HP]
    simp[zmB, *]
  ·have HN:=hide (fun w1=>l04Some n true w1 hn)
   have HP:=hide (show R=(decide (no=0)&&true&&true&&zmB ⟨mK,mF,mT,mI,mL,mk,mN⟩) by rw [←unhide HR];simp[opOk,hk,hn])
   clear HR
   clear hk hn
   go_enter Tryz.func45,Tryz.ntmps45
   go_wp2_with (first|(go_at_call_of 23 k;refine(unhide HK _).mono ?_;rintro e w1 ⟨rfl,rfl⟩)|(go_at_call_of 19 n;refine(unhide HN _).mono ?_;rintro e w1 ⟨rfl,rfl⟩))
   all_goals
    go_ret
    refine⟨ret_bool ?_,below_one w _⟩
    rw [unhide HP]
    simp[zmB, *]
theorem specOpOk_back (no:Int) (k:ByteArray) (n:Int) (m:Mg) (w:World) (hs:k.size≤maxLen):Calls Tryz.prog 45 #[opw ⟨4,no,k,n,m⟩] w fun e w'=>e= .returned (.bool (opOk ⟨4,no,k,n,m⟩))∧Below w.heap.size w w':=by
 obtain⟨mK,mF,mT,mI,mL,mk,mN⟩:=m
 obtain⟨R,hR⟩:∃R,opOk ⟨4,no,k,n,⟨mK,mF,mT,mI,mL,mk,mN⟩⟩=R:=⟨_,rfl⟩
 rw [hR]
 have HR:=hide hR
 clear hR
 cases hk:keyOk k.data.toList
 ·have HK:=hide (fun w1=>specKeyB k false w1 hs hk)
  cases hn:smB n
  ·have HN:=hide (fun w1=>l04Some n false w1 hn)
   have HP:=hide (show R=(decide (no=0)&&false&&false&&zmB ⟨mK,mF,mT,mI,mL,mk,mN⟩) by rw [←unhide HR];simp[opOk,hk,hn])
   clear HR
   clear hk hn
   go_enter Tryz.func45,Tryz.ntmps45
   go_wp2_with (first|(go_at_call_of 23 k;refine(unhide HK _).mono ?_;rintro e w1 ⟨rfl,rfl⟩)|(go_at_call_of 19 n;refine(unhide HN _).mono ?_;rintro e w1 ⟨rfl,rfl⟩))
   all_goals
    go_ret
    refine⟨ret_bool ?_,below_one w _⟩
    rw [unhide HP]
    simp[zmB, *]
  ·have HN:=hide (fun w1=>l04Some n true w1 hn)
   have HP:=hide (show R=(decide (no=0)&&false&&true&&zmB ⟨mK,mF,mT,mI,mL,mk,mN⟩) by rw [←unhide HR];simp[opOk,hk,hn])
   clear HR
   clear hk hn
   go_enter Tryz.func45,Tryz.ntmps45
   go_wp2_with (first|(go_at_call_of 23 k;refine(unhide HK _).mono ?_;rintro e w1 ⟨rfl,rfl⟩)|(go_at_call_of 19 n;refine(unhide HN _).mono ?_;rintro e w1 ⟨rfl,rfl⟩))
   all_goals
    go_ret
    refine⟨ret_bool ?_,below_one w _⟩
    rw [unhide HP]
    simp[zmB, *]
 ·have HK:=hide (fun w1=>specKeyB k true w1 hs hk)
  cases hn:smB n
  ·have HN:=hide (fun w1=>l04Some n false w1 hn)
   have HP:=hide (show R=(decide (no=0)&&true&&false&&zmB ⟨mK,mF,mT,mI,mL,mk,mN⟩) by rw [←unhide HR];simp[opOk,hk,hn])
   clear HR
   clear hk hn
   go_enter Tryz.func45,Tryz.ntmps45
   go_wp2_with (first|(go_at_call_of 23 k;refine(unhide HK _).mono ?_;rintro e w1 ⟨rfl,rfl⟩)|(go_at_call_of 19 n;refine(unhide HN _).mono ?_;rintro e w1 ⟨rfl,rfl⟩))
   all_goals
    go_ret
    refine⟨ret_bool ?_,below_one w _⟩
    rw [unhide HP]
    simp[zmB, *]
  ·have HN:=hide (fun w1=>l04Some n true w1 hn)
   have HP:=hide (show R=(decide (no=0)&&true&&true&&zmB ⟨mK,mF,mT,mI,mL,mk,mN⟩) by rw [←unhide HR];simp[opOk,hk,hn])
   clear HR
   clear hk hn
   go_enter Tryz.func45,Tryz.ntmps45
   go_wp2_with (first|(go_at_call_of 23 k;refine(unhide HK _).mono ?_;rintro e w1 ⟨rfl,rfl⟩)|(go_at_call_of 19 n;refine(unhide HN _).mono ?_;rintro e w1 ⟨rfl,rfl⟩))
   all_goals
    go_ret
    refine⟨ret_bool ?_,below_one w _⟩
    rw [unhide HP]
    simp[zmB, *]
theorem specOpOk_admit (no:Int) (k:ByteArray) (n:Int) (m:Mg) (w:World) (hs:k.size≤maxLen):Calls Tryz.prog 45 #[opw ⟨1,no,k,n,m⟩] w fun e w'=>e= .returned (.bool (opOk ⟨1,no,k,n,m⟩))∧Below w.heap.size w w':=by
 obtain⟨mK,mF,mT,mI,mL,mk,mN⟩:=m
 obtain⟨R,hR⟩:∃R,opOk ⟨1,no,k,n,⟨mK,mF,mT,mI,mL,mk,mN⟩⟩=R:=⟨_,rfl⟩
 rw [hR]
 have HR:=hide hR
 clear hR
 cases hk:keyOk k.data.toList
 ·have HK:=hide (fun w1=>specKeyB k false w1 hs hk)
  cases hn:smB n
  ·have HN:=hide (fun w1=>l04Some n false w1 hn)
   cases ho:smB no
   ·have HO:=hide (fun w1=>l04Some no false w1 ho)
    have HP:=hide (show R=(false&&false&&false&&zmB ⟨mK,mF,mT,mI,mL,mk,mN⟩) by rw [←unhide HR];simp[opOk,hk,hn,ho])
    clear HR
    clear hk hn ho
    go_enter Tryz.func45,Tryz.ntmps45
    go_wp2_with (first|(go_at_call_of 23 k;refine(unhide HK _).mono ?_;rintro e w1 ⟨rfl,rfl⟩)|(go_at_call_of 19 n;refine(unhide HN _).mono ?_;rintro e w1 ⟨rfl,rfl⟩)|(go_at_call_of 19 no;refine(unhide HO _).mono ?_;rintro e w1 ⟨rfl,rfl⟩))
    all_goals
     go_ret
     refine⟨ret_bool ?_,below_one w _⟩
     rw [unhide HP]
     simp[zmB, *]
   ·have HO:=hide (fun w1=>l04Some no true w1 ho)
    have HP:=hide (show R=(false&&false&&true&&zmB ⟨mK,mF,mT,mI,mL,mk,mN⟩) by rw [←unhide HR];simp[opOk,hk,hn,ho])
    clear HR
    clear hk hn ho
    go_enter Tryz.func45,Tryz.ntmps45
    go_wp2_with (first|(go_at_call_of 23 k;refine(unhide HK _).mono ?_;rintro e w1 ⟨rfl,rfl⟩)|(go_at_call_of 19 n;refine(unhide HN _).mono ?_;rintro e w1 ⟨rfl,rfl⟩)|(go_at_call_of 19 no;refine(unhide HO _).mono ?_;rintro e w1 ⟨rfl,rfl⟩))
    all_goals
     go_ret
     refine⟨ret_bool ?_,below_one w _⟩
     rw [unhide HP]
     simp[zmB, *]
  ·have HN:=hide (fun w1=>l04Some n true w1 hn)
   cases ho:smB no
   ·have HO:=hide (fun w1=>l04Some no false w1 ho)
    have HP:=hide (show R=(false&&true&&false&&zmB ⟨mK,mF,mT,mI,mL,mk,mN⟩) by rw [←unhide HR];simp[opOk,hk,hn,ho])
    clear HR
    clear hk hn ho
    go_enter Tryz.func45,Tryz.ntmps45
    go_wp2_with (first|(go_at_call_of 23 k;refine(unhide HK _).mono ?_;rintro e w1 ⟨rfl,rfl⟩)|(go_at_call_of 19 n;refine(unhide HN _).mono ?_;rintro e w1 ⟨rfl,rfl⟩)|(go_at_call_of 19 no;refine(unhide HO _).mono ?_;rintro e w1 ⟨rfl,rfl⟩))
    all_goals
     go_ret
     refine⟨ret_bool ?_,below_one w _⟩
     rw [unhide HP]
     simp[zmB, *]
   ·have HO:=hide (fun w1=>l04Some no true w1 ho)
    have HP:=hide (show R=(false&&true&&true&&zmB ⟨mK,mF,mT,mI,mL,mk,mN⟩) by rw [←unhide HR];simp[opOk,hk,hn,ho])
    clear HR
    clear hk hn ho
    go_enter Tryz.func45,Tryz.ntmps45
    go_wp2_with (first|(go_at_call_of 23 k;refine(unhide HK _).mono ?_;rintro e w1 ⟨rfl,rfl⟩)|(go_at_call_of 19 n;refine(unhide HN _).mono ?_;rintro e w1 ⟨rfl,rfl⟩)|(go_at_call_of 19 no;refine(unhide HO _).mono ?_;rintro e w1 ⟨rfl,rfl⟩))
    all_goals
     go_ret
     refine⟨ret_bool ?_,below_one w _⟩
     rw [unhide HP]
     simp[zmB, *]
 ·have HK:=hide (fun w1=>specKeyB k true w1 hs hk)
  cases hn:smB n
  ·have HN:=hide (fun w1=>l04Some n false w1 hn)
   cases ho:smB no
   ·have HO:=hide (fun w1=>l04Some no false w1 ho)
    have HP:=hide (show R=(true&&false&&false&&zmB ⟨mK,mF,mT,mI,mL,mk,mN⟩) by rw [←unhide HR];simp[opOk,hk,hn,ho])
    clear HR
    clear hk hn ho
    go_enter Tryz.func45,Tryz.ntmps45
    go_wp2_with (first|(go_at_call_of 23 k;refine(unhide HK _).mono ?_;rintro e w1 ⟨rfl,rfl⟩)|(go_at_call_of 19 n;refine(unhide HN _).mono ?_;rintro e w1 ⟨rfl,rfl⟩)|(go_at_call_of 19 no;refine(unhide HO _).mono ?_;rintro e w1 ⟨rfl,rfl⟩))
    all_goals
     go_ret
     refine⟨ret_bool ?_,below_one w _⟩
     rw [unhide HP]
     simp[zmB, *]
   ·have HO:=hide (fun w1=>l04Some no true w1 ho)
    have HP:=hide (show R=(true&&false&&true&&zmB ⟨mK,mF,mT,mI,mL,mk,mN⟩) by rw [←unhide HR];simp[opOk,hk,hn,ho])
    clear HR
    clear hk hn ho
    go_enter Tryz.func45,Tryz.ntmps45
    go_wp2_with (first|(go_at_call_of 23 k;refine(unhide HK _).mono ?_;rintro e w1 ⟨rfl,rfl⟩)|(go_at_call_of 19 n;refine(unhide HN _).mono ?_;rintro e w1 ⟨rfl,rfl⟩)|(go_at_call_of 19 no;refine(unhide HO _).mono ?_;rintro e w1 ⟨rfl,rfl⟩))
    all_goals
     go_ret
     refine⟨ret_bool ?_,below_one w _⟩
     rw [unhide HP]
     simp[zmB, *]
  ·have HN:=hide (fun w1=>l04Some n true w1 hn)
   cases ho:smB no
   ·have HO:=hide (fun w1=>l04Some no false w1 ho)
    have HP:=hide (show R=(true&&true&&false&&zmB ⟨mK,mF,mT,mI,mL,mk,mN⟩) by rw [←unhide HR];simp[opOk,hk,hn,ho])
    clear HR
    clear hk hn ho
    go_enter Tryz.func45,Tryz.ntmps45
    go_wp2_with (first|(go_at_call_of 23 k;refine(unhide HK _).mono ?_;rintro e w1 ⟨rfl,rfl⟩)|(go_at_call_of 19 n;refine(unhide HN _).mono ?_;rintro e w1 ⟨rfl,rfl⟩)|(go_at_call_of 19 no;refine(unhide HO _).mono ?_;rintro e w1 ⟨rfl,rfl⟩))
    all_goals
     go_ret
     refine⟨ret_bool ?_,below_one w _⟩
     rw [unhide HP]
     simp[zmB, *]
   ·have HO:=hide (fun w1=>l04Some no true w1 ho)
    have HP:=hide (show R=(true&&true&&true&&zmB ⟨mK,mF,mT,mI,mL,mk,mN⟩) by rw [←unhide HR];simp[opOk,hk,hn,ho])
    clear HR
    clear hk hn ho
    go_enter Tryz.func45,Tryz.ntmps45
    go_wp2_with (first|(go_at_call_of 23 k;refine(unhide HK _).mono ?_;rintro e w1 ⟨rfl,rfl⟩)|(go_at_call_of 19 n;refine(unhide HN _).mono ?_;rintro e w1 ⟨rfl,rfl⟩)|(go_at_call_of 19 no;refine(unhide HO _).mono ?_;rintro e w1 ⟨rfl,rfl⟩))
    all_goals
     go_ret
     refine⟨ret_bool ?_,below_one w _⟩
     rw [unhide HP]
     simp[zmB, *]
theorem specOpOk_release (no:Int) (k:ByteArray) (n:Int) (m:Mg) (w:World) (_hs:k.size≤maxLen):Calls Tryz.prog 45 #[opw ⟨2,no,k,n,m⟩] w fun e w'=>e= .returned (.bool (opOk ⟨2,no,k,n,m⟩))∧Below w.heap.size w w':=by
 obtain⟨mK,mF,mT,mI,mL,mk,mN⟩:=m
 obtain⟨R,hR⟩:∃R,opOk ⟨2,no,k,n,⟨mK,mF,mT,mI,mL,mk,mN⟩⟩=R:=⟨_,rfl⟩
 rw [hR]
 have HR:=hide hR
 clear hR
 cases ho:smB no
 ·have HO:=hide (fun w1=>l04Some no false w1 ho)
  have HP:=hide (show R=(decide (k.toList=[])&&decide (n=0)&&false&&zmB ⟨mK,mF,mT,mI,mL,mk,mN⟩) by rw [←unhide HR];simp[opOk,ho])
  clear HR
  clear ho
  go_enter Tryz.func45,Tryz.ntmps45
  go_wp2_with (first|(go_at_call_of 19 no;refine(unhide HO _).mono ?_;rintro e w1 ⟨rfl,rfl⟩))
  all_goals
   go_ret
   refine⟨ret_bool ?_,below_one w _⟩
   rw [unhide HP]
   simp[zmB, *]
 ·have HO:=hide (fun w1=>l04Some no true w1 ho)
  have HP:=hide (show R=(decide (k.toList=[])&&decide (n=0)&&true&&zmB ⟨mK,mF,mT,mI,mL,mk,mN⟩) by rw [←unhide HR];simp[opOk,ho])
  clear HR
  clear ho
  go_enter Tryz.func45,Tryz.ntmps45
  go_wp2_with (first|(go_at_call_of 19 no;refine(unhide HO _).mono ?_;rintro e w1 ⟨rfl,rfl⟩))
  all_goals
   go_ret
   refine⟨ret_bool ?_,below_one w _⟩
   rw [unhide HP]
   simp[zmB, *]
theorem specOpOk_tick (no:Int) (k:ByteArray) (n:Int) (m:Mg) (w:World) (_hs:k.size≤maxLen):Calls Tryz.prog 45 #[opw ⟨5,no,k,n,m⟩] w fun e w'=>e= .returned (.bool (opOk ⟨5,no,k,n,m⟩))∧Below w.heap.size w w':=by
 obtain⟨mK,mF,mT,mI,mL,mk,mN⟩:=m
 obtain⟨R,hR⟩:∃R,opOk ⟨5,no,k,n,⟨mK,mF,mT,mI,mL,mk,mN⟩⟩=R:=⟨_,rfl⟩
 rw [hR]
 have HR:=hide hR
 clear hR
 have HP:=hide (show R=(decide (k.toList=[])&&decide (n=0)&&decide (no=0)&&zmB ⟨mK,mF,mT,mI,mL,mk,mN⟩) by rw [←unhide HR];simp[opOk])
 clear HR
 go_enter Tryz.func45,Tryz.ntmps45
 go_wp2_with fail
 all_goals
  go_ret
  refine⟨ret_bool ?_,below_one w _⟩
  rw [unhide HP]
  simp[zmB, *]
theorem specOpOk_hear (no:Int) (k:ByteArray) (n:Int) (m:Mg) (w:World) (hm:m.k.size≤maxLen):Calls Tryz.prog 45 #[opw ⟨6,no,k,n,m⟩] w fun e w'=>e= .returned (.bool (opOk ⟨6,no,k,n,m⟩))∧Below w.heap.size w w':=by
 have HM:=hide (fun w1=>specMsgOk m w1 hm)
 obtain⟨R,hR⟩:∃R,opOk ⟨6,no,k,n,m⟩=R:=⟨_,rfl⟩
 rw [hR]
 have HP:=hide (show R=(decide (k.toList=[])&&decide (n=0)&&decide (no=0)&&mgOk m) by rw [←hR];simp[opOk])
 clear hR
 generalize mgOk m=OK at *
 obtain⟨mK,mF,mT,mI,mL,mk,mN⟩:=m
 go_enter Tryz.func45,Tryz.ntmps45
 go_wp2_with (go_at_call 63;refine(unhide HM _).mono ?_;rintro e w1 ⟨rfl,hb1⟩;have HB1:=hide hb1;clear hb1)
 all_goals
  go_ret
  refine⟨ret_bool ?_,by first|exact below_one w _|exact(below_one w _).trans ((unhide HB1).mono (by simp))⟩
  rw [unhide HP]
  simp[*]
theorem specOpOk_else (K no:Int) (k:ByteArray) (n:Int) (m:Mg) (w:World) (h0:¬K=0) (h1:¬K=1) (h2:¬K=2) (h3:¬K=3) (h4:¬K=4) (h5:¬K=5) (h6:¬K=6):Calls Tryz.prog 45 #[opw ⟨K,no,k,n,m⟩] w fun e w'=>e= .returned (.bool (opOk ⟨K,no,k,n,m⟩))∧Below w.heap.size w w':=by
 have HP:=hide (show opOk ⟨K,no,k,n,m⟩=false by simp[opOk,h0,h1,h2,h3,h4,h5,h6])
 obtain⟨mK,mF,mT,mI,mL,mk,mN⟩:=m
 go_enter Tryz.func45,Tryz.ntmps45
 go_wp2_with fail
 go_ret
 exact⟨ret_bool (unhide HP).symm,below_one w _⟩
theorem specOpOk (o:Op5) (w:World) (hs:o.k.size≤maxLen) (hm:o.m.k.size≤maxLen):Calls Tryz.prog 45 #[opw o] w fun e w'=>e= .returned (.bool (opOk o))∧Below w.heap.size w w':=by
 obtain⟨K,no,k,n,m⟩:=o
 by_cases h0:K=0
 ·subst h0;exact specOpOk_mint no k n m w hs
 by_cases h1:K=1
 ·subst h1;exact specOpOk_admit no k n m w hs
 by_cases h2:K=2
 ·subst h2;exact specOpOk_release no k n m w hs
 by_cases h3:K=3
 ·subst h3;exact specOpOk_want no k n m w hs
 by_cases h4:K=4
 ·subst h4;exact specOpOk_back no k n m w hs
 by_cases h5:K=5
 ·subst h5;exact specOpOk_tick no k n m w hs
 by_cases h6:K=6
 ·subst h6;exact specOpOk_hear no k n m w hm
 exact specOpOk_else K no k n m w h0 h1 h2 h3 h4 h5 h6
set_option maxHeartbeats 8000000
def Aft (w W' W'':World):Prop:=∃F,KeepsL F W' W''∧∀x∈F,x < w.heap.size
theorem Aft.refl {w W':World}:Aft w W' W':=⟨[],KeepsL.refl _ _,fun x hx=>by simp at hx⟩
theorem Aft.kc {c:Nat→Nat} {k:Nat} {w W' W'':World} (h:Aft w W' W'') (hc:∀x,x < w.heap.size→c x=k):KC c k W' W'':=by
 obtain⟨F,hk,hF⟩:=h
 exact KC.keeps hk (fun x hx=>hc x (hF x hx))
theorem NQ.kc0 {w w':World} {B:Nat} {n:Nd} {A:Ads} {G:Blks} {c:Nat→Nat} (h:NQ w B n A G c) (hk:KC c 0 w w'):NQ w' B n A G c:=⟨h.toNO.kc0 hk,hk.seenQ h.sq h.c4 h.ci (by omega) (by omega)⟩
def GivesE (w:World) (R:Nd×List Mg×Int) (e:Ending) (w':World):Prop:=∃A' a cp,e= .returned (.tuple #[ndv R.1 A',.slice a R.2.1.length cp,.int .i64 R.2.2])∧(∀W'',Aft w w' W''→RM W'' A' R.1)∧(∀W'',Aft w w' W''→GR.At encM 7 W'' a R.2.1)∧Below w.heap.size w w'
theorem specDo_badn (n:Nd) (A:Ads) (K no:Int) (k:ByteArray) (nn mK mF mT mI mL:Int) (mk:ByteArray) (mN:Int) (w:World) (hz:NdSz n 1048576) (hok:ndOk n=false) (ha:NodeAt w A n):Calls Tryz.prog 29 #[ndv n A,.agg #[.int .i64 K,.int .i64 no,.string k,.int .i64 nn,.int .i64 mK,.int .i64 mF,.int .i64 mT,.int .i64 mI,.int .i64 mL,.string mk,.int .i64 mN]] w (GivesE w (n,[],3)):=by
 unfold GivesE
 have HOK:=hide (fun W (h:Below w.heap.size w W)=>specNodeOk n A W (hz.mono (by omega)) (ha.below h))
 rw [hok] at HOK
 have HCP:=hide (fun W (h:Below w.heap.size w W)=>specCopyNode n A W hz (ha.below h))
 clear hz ha hok
 go_enter Tryz.func29,Tryz.ntmps29
 go_upto_region 2 with fail
 refine wp_at (fun W1 hW=>?_)
 obtain⟨e1,e2,e3,e4⟩:=allocs3E w (.cells (ndc n A) 30) (.cells #[.int .i64 K,.int .i64 no,.string k,.int .i64 nn,.int .i64 mK,.int .i64 mF,.int .i64 mT,.int .i64 mI,.int .i64 mL,.string mk,.int .i64 mN] 48) (.cells zc9 30)
 have hsz:(((w.alloc (.cells (ndc n A) 30)).alloc (.cells #[.int .i64 K,.int .i64 no,.string k,.int .i64 nn,.int .i64 mK,.int .i64 mF,.int .i64 mT,.int .i64 mI,.int .i64 mL,.string mk,.int .i64 mN] 48)).alloc (.cells zc9 30)).heap.size=w.heap.size+3:=by simp
 generalize hW0:((w.alloc (.cells (ndc n A) 30)).alloc (.cells #[.int .i64 K,.int .i64 no,.string k,.int .i64 nn,.int .i64 mK,.int .i64 mF,.int .i64 mT,.int .i64 mI,.int .i64 mL,.string mk,.int .i64 mN] 48)).alloc (.cells zc9 30)=W0 at *
 have hb:=below_one W0 (.cells #[] 37)
 have hW1:W1=W0.alloc (.cells #[] 37):=by rw [hW,←hW0]
 rw [←hW1] at hb
 have HN:=hide (obj_step e1 hb)
 have HO:=hide (obj_step e2 hb)
 have HR:=hide (obj_step e3 hb)
 have HB1:=hide (e4.trans (hb.mono e4.size))
 clear hW hW0 hW1 e1 e2 e3 e4 hb
 obtain⟨c0,c1,c2,c3,c4,c5,c6,c7,c8⟩:=nine (unhide HN)
 obtain⟨⟨p0,p1,p2,p3,p4,p5,p6,p7,p8,p9,p10⟩,_⟩:=eleven_at (unhide HO)
 have hnl:=obj_lt (unhide HN)
 have hol:=obj_lt (unhide HO)
 go_wp2_with fail
 refine(unhide HOK W1 (unhide HB1)).mono ?_
 rintro e W2 ⟨rfl,hb2⟩
 have HN_2:=hide (obj_step (unhide HN) hb2)
 have HO_2:=hide (obj_step (unhide HO) hb2)
 have HR_2:=hide (obj_step (unhide HR) hb2)
 have HB2:=hide ((unhide HB1).trans (hb2.mono (unhide HB1).size))
 clear hb2 c0 c1 c2 c3 c4 c5 c6 c7 c8 p0 p1 p2 p3 p4 p5 p6 p7 p8 p9 p10 hnl hol HOK HN HO HR HB1
 obtain⟨c0,c1,c2,c3,c4,c5,c6,c7,c8⟩:=nine (unhide HN_2)
 have hnl:=obj_lt (unhide HN_2)
 go_wp2_with fail
 refine(unhide HCP W2 (unhide HB2)).mono ?_
 rintro e W3 ⟨A1,G1,cc,rfl,hNO,hb3,_,_⟩
 have HR_3:=hide (obj_step (unhide HR_2) hb3)
 have HB3:=hide ((unhide HB2).trans (hb3.mono (unhide HB2).size))
 have HNO:=hide hNO
 have hrs:=obj_lt (unhide HR_2)
 clear hb3 hNO c0 c1 c2 c3 c4 c5 c6 c7 c8 hnl HCP HN_2 HO_2 HR_2
 obtain⟨d0,d1,d2,d3,d4,d5,d6,d7,d8⟩:=nine (unhide HR_3)
 have f0:=obj_free (unhide HR_3) 0
 have f1:=obj_free (unhide HR_3) 1
 have f2:=obj_free (unhide HR_3) 2
 have f3:=obj_free (unhide HR_3) 3
 have f4:=obj_free (unhide HR_3) 4
 have f5:=obj_free (unhide HR_3) 5
 have f6:=obj_free (unhide HR_3) 6
 have f7:=obj_free (unhide HR_3) 7
 have f8:=obj_free (unhide HR_3) 8
 have hrl:=obj_lt (unhide HR_3)
 go_wp2_with fail
 refine bodyPost_atN (fun W' hW'=>?_)
 have e4:W'.heap[w.heap.size+2]?=some (.cells #[.int .i64 n.id,.int .i64 n.par,.slice A1.k n.kids.length A1.ck,.int .i64 n.next,.slice A1.p n.pu.length A1.cp,.slice A1.o n.out.length A1.co,.slice A1.s n.seen.length A1.cs,.int .i64 n.old,.slice A1.r n.reqs.length A1.cr] 30 (0,0)):=by
  rw [hW']
  exact GR.setW_blk [.int .i64 n.id,.int .i64 n.par,.slice A1.k n.kids.length A1.ck,.int .i64 n.next,.slice A1.p n.pu.length A1.cp,.slice A1.o n.out.length A1.co,.slice A1.s n.seen.length A1.cs,.int .i64 n.old,.slice A1.r n.reqs.length A1.cr] (o:=0) (xs:=[.int .i64 0,.int .i64 0,.slice none 0 0,.int .i64 0,.slice none 0 0,.slice none 0 0,.slice none 0 0,.int .i64 0,.slice none 0 0]) (unhide HR_3)
 have hkc:KC cc 0 W3 W':=by
  rw [hW']
  exact KC.setW (o:=0) [.int .i64 n.id,.int .i64 n.par,.slice A1.k n.kids.length A1.ck,.int .i64 n.next,.slice A1.p n.pu.length A1.cp,.slice A1.o n.out.length A1.co,.slice A1.s n.seen.length A1.cs,.int .i64 n.old,.slice A1.r n.reqs.length A1.cr] ((unhide HNO).lo _ hrs)
 have HAT:=hide (fun W'' (ho:Aft w W' W'')=>(((unhide HNO).kc0 hkc).kc0 (ho.kc (fun x hx=>(unhide HNO).lo x (by omega)))).rm)
 have HBF:Hid (Below w.heap.size w W'):=by
  rw [hW']
  exact GR.setW_below (by omega) [.int .i64 n.id,.int .i64 n.par,.slice A1.k n.kids.length A1.ck,.int .i64 n.next,.slice A1.p n.pu.length A1.cp,.slice A1.o n.out.length A1.co,.slice A1.s n.seen.length A1.cs,.int .i64 n.old,.slice A1.r n.reqs.length A1.cr] (o:=0) (unhide HB3)
 obtain⟨x0,x1,x2,x3,x4,x5,x6,x7,x8⟩:=nine e4
 clear hW' e4 hkc
 exact bodyPost_ret (v:= .tuple #[.agg #[.int .i64 n.id,.int .i64 n.par,.slice A1.k n.kids.length A1.ck,.int .i64 n.next,.slice A1.p n.pu.length A1.cp,.slice A1.o n.out.length A1.co,.slice A1.s n.seen.length A1.cs,.int .i64 n.old,.slice A1.r n.reqs.length A1.cr],.slice (some ⟨W0.heap.size,0,none⟩) 0 0,.int .i64 3]) (by simp[results,Tryz.results29,go_sem,x0,x1,x2,x3,x4,x5,x6,x7,x8]) rfl ⟨A1,some ⟨W0.heap.size,0,none⟩,0,rfl,unhide HAT,fun W'' _ i hi=>by simp at hi,unhide HBF⟩
theorem specDo_bado (n:Nd) (A:Ads) (K no:Int) (k:ByteArray) (nn mK mF mT mI mL:Int) (mk:ByteArray) (mN:Int) (w:World) (hz:NdSz n 1048576) (hk:k.size≤1048576) (hmk:mk.size≤1048576) (hok:ndOk n=true) (hop:opOk ⟨K,no,k,nn,⟨mK,mF,mT,mI,mL,mk,mN⟩⟩=false) (ha:NodeAt w A n):Calls Tryz.prog 29 #[ndv n A,.agg #[.int .i64 K,.int .i64 no,.string k,.int .i64 nn,.int .i64 mK,.int .i64 mF,.int .i64 mT,.int .i64 mI,.int .i64 mL,.string mk,.int .i64 mN]] w (GivesE w (n,[],3)):=by
 unfold GivesE
 have HOK:=hide (fun W (h:Below w.heap.size w W)=>specNodeOk n A W (hz.mono (by omega)) (ha.below h))
 rw [hok] at HOK
 have HOP:=hide (fun W=>specOpOk ⟨K,no,k,nn,⟨mK,mF,mT,mI,mL,mk,mN⟩⟩ W (by unfold maxLen;dsimp only;omega) (by unfold maxLen;dsimp only;omega))
 rw [hop] at HOP
 unfold opw at HOP
 clear hop
 have HCP:=hide (fun W (h:Below w.heap.size w W)=>specCopyNode n A W hz (ha.below h))
 clear hz ha hok
 go_enter Tryz.func29,Tryz.ntmps29
 go_upto_region 2 with fail
 refine wp_at (fun W1 hW=>?_)
 obtain⟨e1,e2,e3,e4⟩:=allocs3E w (.cells (ndc n A) 30) (.cells #[.int .i64 K,.int .i64 no,.string k,.int .i64 nn,.int .i64 mK,.int .i64 mF,.int .i64 mT,.int .i64 mI,.int .i64 mL,.string mk,.int .i64 mN] 48) (.cells zc9 30)
 have hsz:(((w.alloc (.cells (ndc n A) 30)).alloc (.cells #[.int .i64 K,.int .i64 no,.string k,.int .i64 nn,.int .i64 mK,.int .i64 mF,.int .i64 mT,.int .i64 mI,.int .i64 mL,.string mk,.int .i64 mN] 48)).alloc (.cells zc9 30)).heap.size=w.heap.size+3:=by simp
 generalize hW0:((w.alloc (.cells (ndc n A) 30)).alloc (.cells #[.int .i64 K,.int .i64 no,.string k,.int .i64 nn,.int .i64 mK,.int .i64 mF,.int .i64 mT,.int .i64 mI,.int .i64 mL,.string mk,.int .i64 mN] 48)).alloc (.cells zc9 30)=W0 at *
 have hb:=below_one W0 (.cells #[] 37)
 have hW1:W1=W0.alloc (.cells #[] 37):=by rw [hW,←hW0]
 rw [←hW1] at hb
 have HN:=hide (obj_step e1 hb)
 have HO:=hide (obj_step e2 hb)
 have HR:=hide (obj_step e3 hb)
 have HB1:=hide (e4.trans (hb.mono e4.size))
 clear hW hW0 hW1 e1 e2 e3 e4 hb
 obtain⟨c0,c1,c2,c3,c4,c5,c6,c7,c8⟩:=nine (unhide HN)
 obtain⟨⟨p0,p1,p2,p3,p4,p5,p6,p7,p8,p9,p10⟩,_⟩:=eleven_at (unhide HO)
 have hnl:=obj_lt (unhide HN)
 have hol:=obj_lt (unhide HO)
 go_wp2_with fail
 refine(unhide HOK W1 (unhide HB1)).mono ?_
 rintro e W2 ⟨rfl,hb2⟩
 have HN_2:=hide (obj_step (unhide HN) hb2)
 have HO_2:=hide (obj_step (unhide HO) hb2)
 have HR_2:=hide (obj_step (unhide HR) hb2)
 have HB2:=hide ((unhide HB1).trans (hb2.mono (unhide HB1).size))
 clear hb2 c0 c1 c2 c3 c4 c5 c6 c7 c8 p0 p1 p2 p3 p4 p5 p6 p7 p8 p9 p10 hnl hol HOK HN HO HR HB1
 obtain⟨⟨p0,p1,p2,p3,p4,p5,p6,p7,p8,p9,p10⟩,_⟩:=eleven_at (unhide HO_2)
 have hol:=obj_lt (unhide HO_2)
 go_wp2_with fail
 refine(unhide HOP W2).mono ?_
 rintro e W4 ⟨rfl,hb4⟩
 have HN_5:=hide (obj_step (unhide HN_2) hb4)
 have HO_5:=hide (obj_step (unhide HO_2) hb4)
 have HR_5:=hide (obj_step (unhide HR_2) hb4)
 have HB5:=hide ((unhide HB2).trans (hb4.mono (unhide HB2).size))
 clear hb4 p0 p1 p2 p3 p4 p5 p6 p7 p8 p9 p10 hol HOP HN_2 HO_2 HR_2 HB2
 obtain⟨c0,c1,c2,c3,c4,c5,c6,c7,c8⟩:=nine (unhide HN_5)
 have hnl:=obj_lt (unhide HN_5)
 go_wp2_with fail
 refine(unhide HCP W4 (unhide HB5)).mono ?_
 rintro e W3 ⟨A1,G1,cc,rfl,hNO,hb3,_,_⟩
 have HR_3:=hide (obj_step (unhide HR_5) hb3)
 have HB3:=hide ((unhide HB5).trans (hb3.mono (unhide HB5).size))
 have HNO:=hide hNO
 have hrs:=obj_lt (unhide HR_5)
 clear hb3 hNO c0 c1 c2 c3 c4 c5 c6 c7 c8 hnl HCP HN_5 HO_5 HR_5
 obtain⟨d0,d1,d2,d3,d4,d5,d6,d7,d8⟩:=nine (unhide HR_3)
 have f0:=obj_free (unhide HR_3) 0
 have f1:=obj_free (unhide HR_3) 1
 have f2:=obj_free (unhide HR_3) 2
 have f3:=obj_free (unhide HR_3) 3
 have f4:=obj_free (unhide HR_3) 4
 have f5:=obj_free (unhide HR_3) 5
 have f6:=obj_free (unhide HR_3) 6
 have f7:=obj_free (unhide HR_3) 7
 have f8:=obj_free (unhide HR_3) 8
 have hrl:=obj_lt (unhide HR_3)
 go_wp2_with fail
 refine bodyPost_atN (fun W' hW'=>?_)
 have e4:W'.heap[w.heap.size+2]?=some (.cells #[.int .i64 n.id,.int .i64 n.par,.slice A1.k n.kids.length A1.ck,.int .i64 n.next,.slice A1.p n.pu.length A1.cp,.slice A1.o n.out.length A1.co,.slice A1.s n.seen.length A1.cs,.int .i64 n.old,.slice A1.r n.reqs.length A1.cr] 30 (0,0)):=by
  rw [hW']
  exact GR.setW_blk [.int .i64 n.id,.int .i64 n.par,.slice A1.k n.kids.length A1.ck,.int .i64 n.next,.slice A1.p n.pu.length A1.cp,.slice A1.o n.out.length A1.co,.slice A1.s n.seen.length A1.cs,.int .i64 n.old,.slice A1.r n.reqs.length A1.cr] (o:=0) (xs:=[.int .i64 0,.int .i64 0,.slice none 0 0,.int .i64 0,.slice none 0 0,.slice none 0 0,.slice none 0 0,.int .i64 0,.slice none 0 0]) (unhide HR_3)
 have hkc:KC cc 0 W3 W':=by
  rw [hW']
  exact KC.setW (o:=0) [.int .i64 n.id,.int .i64 n.par,.slice A1.k n.kids.length A1.ck,.int .i64 n.next,.slice A1.p n.pu.length A1.cp,.slice A1.o n.out.length A1.co,.slice A1.s n.seen.length A1.cs,.int .i64 n.old,.slice A1.r n.reqs.length A1.cr] ((unhide HNO).lo _ hrs)
 have HAT:=hide (fun W'' (ho:Aft w W' W'')=>(((unhide HNO).kc0 hkc).kc0 (ho.kc (fun x hx=>(unhide HNO).lo x (by omega)))).rm)
 have HBF:Hid (Below w.heap.size w W'):=by
  rw [hW']
  exact GR.setW_below (by omega) [.int .i64 n.id,.int .i64 n.par,.slice A1.k n.kids.length A1.ck,.int .i64 n.next,.slice A1.p n.pu.length A1.cp,.slice A1.o n.out.length A1.co,.slice A1.s n.seen.length A1.cs,.int .i64 n.old,.slice A1.r n.reqs.length A1.cr] (o:=0) (unhide HB3)
 obtain⟨x0,x1,x2,x3,x4,x5,x6,x7,x8⟩:=nine e4
 clear hW' e4 hkc
 exact bodyPost_ret (v:= .tuple #[.agg #[.int .i64 n.id,.int .i64 n.par,.slice A1.k n.kids.length A1.ck,.int .i64 n.next,.slice A1.p n.pu.length A1.cp,.slice A1.o n.out.length A1.co,.slice A1.s n.seen.length A1.cs,.int .i64 n.old,.slice A1.r n.reqs.length A1.cr],.slice (some ⟨W0.heap.size,0,none⟩) 0 0,.int .i64 3]) (by simp[results,Tryz.results29,go_sem,x0,x1,x2,x3,x4,x5,x6,x7,x8]) rfl ⟨A1,some ⟨W0.heap.size,0,none⟩,0,rfl,unhide HAT,fun W'' _ i hi=>by simp at hi,unhide HBF⟩
end Go.Proofs.YtdlokncalhopoaaGreat
