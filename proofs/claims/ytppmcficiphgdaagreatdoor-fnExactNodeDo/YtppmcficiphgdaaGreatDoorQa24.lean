/-
  MgMsg.
-/
import Derived.Test.YtppmcficiphgdaaGreatDoorQa23
import Derived.Test.YtppmcficiphgdaaGreatDoorQaZ3
import Derived.Lib.QuietBelow
import Derived.BigQuiet
import Derived.Deep.DeepCutAuto
namespace Go.Proofs.YtppmcficiphgdaaGreatDoor
set_option maxHeartbeats 2000000
set_option maxRecDepth 100000
open Go.RowKit
open Mth
def ifv (m:Mg):Value:=
 if m.K=0 then .iface 243 (.agg #[.int .i64 m.F,.int .i64 m.T,.string m.k,.int .i64 m.N])
 else if m.K=1 then .iface 245 (.agg #[.int .i64 m.F,.int .i64 m.T,.int .i64 m.I,.int .i64 m.L,.string m.k,.int .i64 m.N])
 else if m.K=2 then .iface 247 (.agg #[.int .i64 m.F,.int .i64 m.T,.int .i64 m.I])
 else .nilIface
theorem mt_want (v:Value) (w:World):(method 471 243 v "loop.example/g00264/impl.ok").run Tryz.prog w= .ok (301,v) w:=by kernel_rfl
theorem mt_pay (v:Value) (w:World):(method 471 245 v "loop.example/g00264/impl.ok").run Tryz.prog w= .ok (302,v) w:=by kernel_rfl
theorem mt_ack (v:Value) (w:World):(method 471 247 v "loop.example/g00264/impl.ok").run Tryz.prog w= .ok (303,v) w:=by kernel_rfl
theorem messageOf_want_no (F:Int) (T:Int) (I:Int) (L:Int) (k:ByteArray) (N:Int) (w:World) (hr:(rtB F T&&keyOk k.data.toList&&smB N)=false):Calls Tryz.prog 184 #[mgv ⟨0,F,T,I,L,k,N⟩] w fun e w'=>e= .returned (.tuple #[ifv ⟨0,F,T,I,L,k,N⟩,.bool (mgOk ⟨0,F,T,I,L,k,N⟩)])∧Below w.heap.size w w':=by
 have HP:=hide (show mgOk ⟨0,F,T,I,L,k,N⟩=false by simp only[Bool.and_eq_false_iff] at hr;rcases hr with(h|h)|h<;>simp[mgOk,h]);have HO:=hide (fun w1=>wantOk F T k N false w1 hr);open Sa172 in exact Ya39
theorem messageOf_want_id (F:Int) (T:Int) (I:Int) (L:Int) (k:ByteArray) (N:Int) (w:World) (hr:(rtB F T&&keyOk k.data.toList&&smB N)=true) (hI:¬0=I):Calls Tryz.prog 184 #[mgv ⟨0,F,T,I,L,k,N⟩] w fun e w'=>e= .returned (.tuple #[ifv ⟨0,F,T,I,L,k,N⟩,.bool (mgOk ⟨0,F,T,I,L,k,N⟩)])∧Below w.heap.size w w':=by
 have HP:=hide (show mgOk ⟨0,F,T,I,L,k,N⟩=false by simp only[Bool.and_eq_true] at hr;obtain⟨⟨h1,h2⟩,h3⟩:=hr;simp[mgOk,h1,h2,h3,Ne.symm hI]);have HO:=hide (fun w1=>wantOk F T k N true w1 hr);have HM:=hide (fun w1=>msgOf_want F T k N w1);open Sa171 in exact Ya39
theorem messageOf_want_low (F:Int) (T:Int) (L:Int) (k:ByteArray) (N:Int) (w:World) (hr:(rtB F T&&keyOk k.data.toList&&smB N)=true) (hL:¬0=L):Calls Tryz.prog 184 #[mgv ⟨0,F,T,0,L,k,N⟩] w fun e w'=>e= .returned (.tuple #[ifv ⟨0,F,T,0,L,k,N⟩,.bool (mgOk ⟨0,F,T,0,L,k,N⟩)])∧Below w.heap.size w w':=by
 have HP:=hide (show mgOk ⟨0,F,T,0,L,k,N⟩=false by simp only[Bool.and_eq_true] at hr;obtain⟨⟨h1,h2⟩,h3⟩:=hr;simp[mgOk,h1,h2,h3,Ne.symm hL]);have HO:=hide (fun w1=>wantOk F T k N true w1 hr);have HM:=hide (fun w1=>msgOf_want F T k N w1);open Sa170 in exact Ya39
theorem messageOf_want_yes (F:Int) (T:Int) (k:ByteArray) (N:Int) (w:World) (hr:(rtB F T&&keyOk k.data.toList&&smB N)=true):Calls Tryz.prog 184 #[mgv ⟨0,F,T,0,0,k,N⟩] w fun e w'=>e= .returned (.tuple #[ifv ⟨0,F,T,0,0,k,N⟩,.bool (mgOk ⟨0,F,T,0,0,k,N⟩)])∧Below w.heap.size w w':=by
 have HP:=hide (show mgOk ⟨0,F,T,0,0,k,N⟩=true by simp only[Bool.and_eq_true] at hr;obtain⟨⟨h1,h2⟩,h3⟩:=hr;simp[mgOk,h1,h2,h3]);have HO:=hide (fun w1=>wantOk F T k N true w1 hr);have HM:=hide (fun w1=>msgOf_want F T k N w1);open Sa169 in exact Ya39
theorem messageOf_pay_no (F:Int) (T:Int) (I:Int) (L:Int) (k:ByteArray) (N:Int) (w:World) (hr:(rtB F T&&smB I&&decide (1≤L)&&decide (L≤I)&&keyOk k.data.toList&&smB N)=false):Calls Tryz.prog 184 #[mgv ⟨1,F,T,I,L,k,N⟩] w fun e w'=>e= .returned (.tuple #[ifv ⟨1,F,T,I,L,k,N⟩,.bool (mgOk ⟨1,F,T,I,L,k,N⟩)])∧Below w.heap.size w w':=by
 have HP:=hide (show mgOk ⟨1,F,T,I,L,k,N⟩=false by simp only[Bool.and_eq_false_iff,decide_eq_false_iff_not] at hr;rcases hr with((((h|h)|h)|h)|h)|h<;>simp[mgOk,h]<;>omega);have HO:=hide (fun w1=>payOk F T I L k N false w1 hr);open Sa168 in exact Ya39
theorem messageOf_pay_yes (F:Int) (T:Int) (I:Int) (L:Int) (k:ByteArray) (N:Int) (w:World) (hr:(rtB F T&&smB I&&decide (1≤L)&&decide (L≤I)&&keyOk k.data.toList&&smB N)=true):Calls Tryz.prog 184 #[mgv ⟨1,F,T,I,L,k,N⟩] w fun e w'=>e= .returned (.tuple #[ifv ⟨1,F,T,I,L,k,N⟩,.bool (mgOk ⟨1,F,T,I,L,k,N⟩)])∧Below w.heap.size w w':=by
 have HP:=hide (show mgOk ⟨1,F,T,I,L,k,N⟩=true by simp only[Bool.and_eq_true,decide_eq_true_iff] at hr;obtain⟨⟨⟨⟨⟨h1,h2⟩,h3⟩,h4⟩,h5⟩,h6⟩:=hr;simp[mgOk,h1,h2,h3,h4,h5,h6]);have HO:=hide (fun w1=>payOk F T I L k N true w1 hr);have HM:=hide (fun w1=>msgOf_pay F T I L k N w1);open Sa167 in exact Ya39
theorem messageOf_ack_no (F:Int) (T:Int) (I:Int) (L:Int) (k:ByteArray) (N:Int) (w:World) (hr:(rtB F T&&smB I)=false):Calls Tryz.prog 184 #[mgv ⟨2,F,T,I,L,k,N⟩] w fun e w'=>e= .returned (.tuple #[ifv ⟨2,F,T,I,L,k,N⟩,.bool (mgOk ⟨2,F,T,I,L,k,N⟩)])∧Below w.heap.size w w':=by
 have HP:=hide (show mgOk ⟨2,F,T,I,L,k,N⟩=false by simp only[Bool.and_eq_false_iff] at hr;rcases hr with h|h<;>simp[mgOk,h]);have HO:=hide (fun w1=>ackOk F T I false w1 hr);open Sa166 in exact Ya39
theorem messageOf_ack_low (F:Int) (T:Int) (I:Int) (L:Int) (k:ByteArray) (N:Int) (w:World) (hr:(rtB F T&&smB I)=true) (hL:¬0=L):Calls Tryz.prog 184 #[mgv ⟨2,F,T,I,L,k,N⟩] w fun e w'=>e= .returned (.tuple #[ifv ⟨2,F,T,I,L,k,N⟩,.bool (mgOk ⟨2,F,T,I,L,k,N⟩)])∧Below w.heap.size w w':=by
 have HP:=hide (show mgOk ⟨2,F,T,I,L,k,N⟩=false by simp only[Bool.and_eq_true] at hr;obtain⟨h1,h2⟩:=hr;simp[mgOk,h1,h2,Ne.symm hL]);have HO:=hide (fun w1=>ackOk F T I true w1 hr);have HM:=hide (fun w1=>msgOf_ack F T I w1);open Sa165 in exact Ya39
theorem messageOf_ack_key (F:Int) (T:Int) (I:Int) (k:ByteArray) (N:Int) (w:World) (hr:(rtB F T&&smB I)=true) (hk:¬k.size=0):Calls Tryz.prog 184 #[mgv ⟨2,F,T,I,0,k,N⟩] w fun e w'=>e= .returned (.tuple #[ifv ⟨2,F,T,I,0,k,N⟩,.bool (mgOk ⟨2,F,T,I,0,k,N⟩)])∧Below w.heap.size w w':=by
 have HP:=hide (show mgOk ⟨2,F,T,I,0,k,N⟩=false by simp only[Bool.and_eq_true] at hr;obtain⟨h1,h2⟩:=hr;simp[mgOk,h1,h2,hk]);have HO:=hide (fun w1=>ackOk F T I true w1 hr);have HM:=hide (fun w1=>msgOf_ack F T I w1);clear hr;have hne:¬k.toList=[]:=by rw [ByteArray.toList_eq];intro h;have:=size_toList k;rw [h] at this;simp at this;omega
 have hne2:¬[]=k.toList:=fun h=>hne h.symm
 clear hk;go_enter Tryz.func184,Tryz.ntmps184
 go_upto_region 11 with fail;refine wp_at (fun V hV=>?_);have hblk:V.heap[w.heap.size]?=some (.cells #[.int .i64 2,.int .i64 F,.int .i64 T,.int .i64 I,.int .i64 0,.string k,.int .i64 N] 32 (0,0)):=by rw [hV,Below.heap_alloc _ _ _ (by simp)];exact heap_alloc_new w _
 open Sa8 in exact Ya1
theorem messageOf_ack_n (F:Int) (T:Int) (I:Int) (N:Int) (w:World) (hr:(rtB F T&&smB I)=true) (hN:¬0=N):Calls Tryz.prog 184 #[mgv ⟨2,F,T,I,0,ByteArray.empty,N⟩] w fun e w'=>e= .returned (.tuple #[ifv ⟨2,F,T,I,0,ByteArray.empty,N⟩,.bool (mgOk ⟨2,F,T,I,0,ByteArray.empty,N⟩)])∧Below w.heap.size w w':=by
 have HP:=hide (show mgOk ⟨2,F,T,I,0,ByteArray.empty,N⟩=false by simp only[Bool.and_eq_true] at hr;obtain⟨h1,h2⟩:=hr;simp[mgOk,h1,h2,Ne.symm hN]);have HO:=hide (fun w1=>ackOk F T I true w1 hr);have HM:=hide (fun w1=>msgOf_ack F T I w1);open Sa164 in exact Ya39
theorem messageOf_ack_yes (F:Int) (T:Int) (I:Int) (w:World) (hr:(rtB F T&&smB I)=true):Calls Tryz.prog 184 #[mgv ⟨2,F,T,I,0,ByteArray.empty,0⟩] w fun e w'=>e= .returned (.tuple #[ifv ⟨2,F,T,I,0,ByteArray.empty,0⟩,.bool (mgOk ⟨2,F,T,I,0,ByteArray.empty,0⟩)])∧Below w.heap.size w w':=by
 have HP:=hide (show mgOk ⟨2,F,T,I,0,ByteArray.empty,0⟩=true by simp only[Bool.and_eq_true] at hr;obtain⟨h1,h2⟩:=hr;simp[mgOk,h1,h2]);have HO:=hide (fun w1=>ackOk F T I true w1 hr);have HM:=hide (fun w1=>msgOf_ack F T I w1);open Sa163 in exact Ya39
theorem messageOf_else (K F T I L:Int) (k:ByteArray) (N:Int) (w:World) (k0:¬K=0) (k1:¬K=1) (k2:¬K=2):Calls Tryz.prog 184 #[mgv ⟨K,F,T,I,L,k,N⟩] w fun e w'=>e= .returned (.tuple #[ifv ⟨K,F,T,I,L,k,N⟩,.bool (mgOk ⟨K,F,T,I,L,k,N⟩)])∧Below w.heap.size w w':=by
 have HP:=hide (show mgOk ⟨K,F,T,I,L,k,N⟩=false by simp[mgOk,k0,k1,k2]);have HV:=hide (show ifv ⟨K,F,T,I,L,k,N⟩= .nilIface by simp[ifv,k0,k1,k2]);go_enter Tryz.func184,Tryz.ntmps184
 go_wp2_with fail;exact bodyPost_ret (v:= .tuple #[.nilIface,.bool false]) (by simp[results,Tryz.results184,go_sem]) rfl ⟨by rw [unhide HP,unhide HV],((Below.refl _ _).alloc (Nat.le_refl _) _).alloc (by simp) _⟩
theorem messageOf (m:Mg) (w:World):Calls Tryz.prog 184 #[mgv m] w fun e w'=>e= .returned (.tuple #[ifv m,.bool (mgOk m)])∧Below w.heap.size w w':=by
 obtain⟨K,F,T,I,L,k,N⟩:=m;by_cases k0:K=0
 ·subst k0;cases hr:(rtB F T&&keyOk k.data.toList&&smB N)
  ·exact messageOf_want_no F T I L k N w hr
  by_cases hI:0=I
  ·subst hI;by_cases hL:0=L
   ·subst hL;exact messageOf_want_yes F T k N w hr
   ·exact messageOf_want_low F T L k N w hr hL
  ·exact messageOf_want_id F T I L k N w hr hI
 by_cases k1:K=1
 ·subst k1;cases hr:(rtB F T&&smB I&&decide (1≤L)&&decide (L≤I)&&keyOk k.data.toList&&smB N)
  ·exact messageOf_pay_no F T I L k N w hr
  ·exact messageOf_pay_yes F T I L k N w hr
 by_cases k2:K=2
 ·subst k2;cases hr:(rtB F T&&smB I)
  ·exact messageOf_ack_no F T I L k N w hr
  by_cases hL:0=L
  ·subst hL;by_cases hk:k.size=0
   ·obtain rfl:=eq_empty k hk;by_cases hN:0=N
    ·subst hN;exact messageOf_ack_yes F T I w hr
    ·exact messageOf_ack_n F T I N w hr hN
   ·exact messageOf_ack_key F T I k N w hr hk
  ·exact messageOf_ack_low F T I L k N w hr hL
 exact messageOf_else K F T I L k N w k0 k1 k2
theorem implMsgOk (m:Mg) (w:World):Calls Tryz.prog 157 #[mgv m] w fun e w'=>e= .returned (.bool (mgOk m))∧Below w.heap.size w w':=by
 have HM:=hide (fun w1=>messageOf m w1);generalize mgOk m=r at *;generalize ifv m=v at *;obtain⟨K,F,T,I,L,k,N⟩:=m;go_enter Tryz.func157,Tryz.ntmps157
 go_wp2_with fail;refine(HM _).mono ?_;rintro e w1 ⟨rfl,hb1⟩;go_wp2
 go_ret;exact⟨rfl,(below_one w _).trans (hb1.mono (by simp))⟩
end Go.Proofs.YtppmcficiphgdaaGreatDoor
