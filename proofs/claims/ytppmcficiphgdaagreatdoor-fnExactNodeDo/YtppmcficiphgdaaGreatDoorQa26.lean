/-
  NdDo.
-/
import Derived.Test.YtppmcficiphgdaaGreatDoorQa1
import Derived.Test.YtppmcficiphgdaaGreatDoorQa23
import Derived.Test.YtppmcficiphgdaaGreatDoorQa19
import Derived.Test.YtppmcficiphgdaaGreatDoorQa25
import Derived.Test.YtppmcficiphgdaaGreatDoorQaZ3
import Derived.Laws.EntriesVeiled
namespace Go.Proofs.YtppmcficiphgdaaGreatDoor
set_option maxHeartbeats 4000000
set_option maxRecDepth 100000
open Go.RowKit
open Mth
theorem wkDo_bad (w0 w:World) (wb:Nat) (n:Nd) (A:Ads) (G:Blks) (c:Nat→Nat) (v:Value) (L:List Mg) (o:Op5) (ho:opOk o=false) (h:WK w0 w wb n A G c v L):Calls Tryz.prog 33 #[.pointer (some ⟨wb,0,none⟩),opw o] w fun e w'=>e= .returned (.int .i64 (wdoN n o).2.2)∧∃A' G' c' v',WK w0 w' wb (wdoN n o).1 A' G' c' v' (L++(wdoN n o).2.1):=by
 have HR:Hid (wdoN n o=(n,[],3)):=by
  show wdoN n o=_
  unfold wdoN;rw [ho];rfl
 rw [unhide HR];clear HR;open Sa217 in exact Ya54
theorem wkDo_far (w0 w:World) (wb:Nat) (n:Nd) (A:Ads) (G:Blks) (c:Nat→Nat) (v:Value) (L:List Mg) (o:Op5) (hp:placeB n=true) (hz:n.kids.length≤1048600) (ho:opOk o=true) (hK:o.K=6) (ha:addrB n o=false) (h:WK w0 w wb n A G c v L):Calls Tryz.prog 33 #[.pointer (some ⟨wb,0,none⟩),opw o] w fun e w'=>e= .returned (.int .i64 (wdoN n o).2.2)∧∃A' G' c' v',WK w0 w' wb (wdoN n o).1 A' G' c' v' (L++(wdoN n o).2.1):=by
 have HR:Hid (wdoN n o=(n,[],3)):=by
  show wdoN n o=_
  unfold wdoN;rw [ha,Bool.and_false];rfl
 rw [unhide HR]
 have hd:(decide (o.m.T=n.id)&&nearB n o.m.F)=false:=by
  unfold addrB at ha;rw [hK] at ha;simpa using ha
 have HAD:=hide (fun W (hW:WK w0 W wb n A G c v L)=>wkAddr w0 W wb n A G c v L o.m hp hz hW);rw [hd] at HAD;clear HR hp hz ha hd;have HK6:=hide hK;clear hK;open Sa216 in exact Ya54
theorem wkDo_0 (w0 w:World) (wb:Nat) (n:Nd) (A:Ads) (G:Blks) (c:Nat→Nat) (v:Value) (L:List Mg) (o:Op5) (ho:opOk o=true) (hK:o.K=0) (hx:∀W,WK w0 W wb n A G c v L→Calls Tryz.prog 106 #[.pointer (some ⟨wb,0,none⟩),opw o] W fun e w'=>e= .returned (.int .i64 (actN n o).2.2)∧∃A' G' c' v',WK w0 w' wb (actN n o).1 A' G' c' v' (L++(actN n o).2.1)) (h:WK w0 w wb n A G c v L):Calls Tryz.prog 33 #[.pointer (some ⟨wb,0,none⟩),opw o] w fun e w'=>e= .returned (.int .i64 (actN n o).2.2)∧∃A' G' c' v',WK w0 w' wb (actN n o).1 A' G' c' v' (L++(actN n o).2.1):=by
 open Sa5 in exact Ya0
theorem wkDo_1 (w0 w:World) (wb:Nat) (n:Nd) (A:Ads) (G:Blks) (c:Nat→Nat) (v:Value) (L:List Mg) (o:Op5) (ho:opOk o=true) (hK:o.K=1) (hx:∀W,WK w0 W wb n A G c v L→Calls Tryz.prog 107 #[.pointer (some ⟨wb,0,none⟩),opw o] W fun e w'=>e= .returned (.int .i64 (actN n o).2.2)∧∃A' G' c' v',WK w0 w' wb (actN n o).1 A' G' c' v' (L++(actN n o).2.1)) (h:WK w0 w wb n A G c v L):Calls Tryz.prog 33 #[.pointer (some ⟨wb,0,none⟩),opw o] w fun e w'=>e= .returned (.int .i64 (actN n o).2.2)∧∃A' G' c' v',WK w0 w' wb (actN n o).1 A' G' c' v' (L++(actN n o).2.1):=by
 open Sa4 in exact Ya0
theorem wkDo_2 (w0 w:World) (wb:Nat) (n:Nd) (A:Ads) (G:Blks) (c:Nat→Nat) (v:Value) (L:List Mg) (o:Op5) (ho:opOk o=true) (hK:o.K=2) (hx:∀W,WK w0 W wb n A G c v L→Calls Tryz.prog 108 #[.pointer (some ⟨wb,0,none⟩),opw o] W fun e w'=>e= .returned (.int .i64 (actN n o).2.2)∧∃A' G' c' v',WK w0 w' wb (actN n o).1 A' G' c' v' (L++(actN n o).2.1)) (h:WK w0 w wb n A G c v L):Calls Tryz.prog 33 #[.pointer (some ⟨wb,0,none⟩),opw o] w fun e w'=>e= .returned (.int .i64 (actN n o).2.2)∧∃A' G' c' v',WK w0 w' wb (actN n o).1 A' G' c' v' (L++(actN n o).2.1):=by
 open Sa3 in exact Ya0
theorem wkDo_3 (w0 w:World) (wb:Nat) (n:Nd) (A:Ads) (G:Blks) (c:Nat→Nat) (v:Value) (L:List Mg) (o:Op5) (ho:opOk o=true) (hK:o.K=3) (hx:∀W,WK w0 W wb n A G c v L→Calls Tryz.prog 109 #[.pointer (some ⟨wb,0,none⟩),opw o] W fun e w'=>e= .returned (.int .i64 (actN n o).2.2)∧∃A' G' c' v',WK w0 w' wb (actN n o).1 A' G' c' v' (L++(actN n o).2.1)) (h:WK w0 w wb n A G c v L):Calls Tryz.prog 33 #[.pointer (some ⟨wb,0,none⟩),opw o] w fun e w'=>e= .returned (.int .i64 (actN n o).2.2)∧∃A' G' c' v',WK w0 w' wb (actN n o).1 A' G' c' v' (L++(actN n o).2.1):=by
 open Sa2 in exact Ya0
theorem wkDo_4 (w0 w:World) (wb:Nat) (n:Nd) (A:Ads) (G:Blks) (c:Nat→Nat) (v:Value) (L:List Mg) (o:Op5) (ho:opOk o=true) (hK:o.K=4) (hx:∀W,WK w0 W wb n A G c v L→Calls Tryz.prog 110 #[.pointer (some ⟨wb,0,none⟩),opw o] W fun e w'=>e= .returned (.int .i64 (actN n o).2.2)∧∃A' G' c' v',WK w0 w' wb (actN n o).1 A' G' c' v' (L++(actN n o).2.1)) (h:WK w0 w wb n A G c v L):Calls Tryz.prog 33 #[.pointer (some ⟨wb,0,none⟩),opw o] w fun e w'=>e= .returned (.int .i64 (actN n o).2.2)∧∃A' G' c' v',WK w0 w' wb (actN n o).1 A' G' c' v' (L++(actN n o).2.1):=by
 open Sa1 in exact Ya0
theorem wkDo_5 (w0 w:World) (wb:Nat) (n:Nd) (A:Ads) (G:Blks) (c:Nat→Nat) (v:Value) (L:List Mg) (o:Op5) (ho:opOk o=true) (hK:o.K=5) (hx:∀W,WK w0 W wb n A G c v L→Calls Tryz.prog 111 #[.pointer (some ⟨wb,0,none⟩),opw o] W fun e w'=>e= .returned (.int .i64 (actN n o).2.2)∧∃A' G' c' v',WK w0 w' wb (actN n o).1 A' G' c' v' (L++(actN n o).2.1)) (h:WK w0 w wb n A G c v L):Calls Tryz.prog 33 #[.pointer (some ⟨wb,0,none⟩),opw o] w fun e w'=>e= .returned (.int .i64 (actN n o).2.2)∧∃A' G' c' v',WK w0 w' wb (actN n o).1 A' G' c' v' (L++(actN n o).2.1):=by
 open Sa0 in exact Ya0
theorem wkDo_6 (w0 w:World) (wb:Nat) (n:Nd) (A:Ads) (G:Blks) (c:Nat→Nat) (v:Value) (L:List Mg) (o:Op5) (hp:placeB n=true) (hz:n.kids.length≤1048600) (hd:(decide (o.m.T=n.id)&&nearB n o.m.F)=true) (ho:opOk o=true) (hK:o.K=6) (hx:∀W,WK w0 W wb n A G c v L→Calls Tryz.prog 112 #[.pointer (some ⟨wb,0,none⟩),opw o] W fun e w'=>e= .returned (.int .i64 (actN n o).2.2)∧∃A' G' c' v',WK w0 w' wb (actN n o).1 A' G' c' v' (L++(actN n o).2.1)) (h:WK w0 w wb n A G c v L):Calls Tryz.prog 33 #[.pointer (some ⟨wb,0,none⟩),opw o] w fun e w'=>e= .returned (.int .i64 (actN n o).2.2)∧∃A' G' c' v',WK w0 w' wb (actN n o).1 A' G' c' v' (L++(actN n o).2.1):=by
 have HAD:=hide (fun W (hW:WK w0 W wb n A G c v L)=>wkAddr w0 W wb n A G c v L o.m hp hz hW);rw [hd] at HAD;clear hp hz hd;have HX:=hide hx;have HKQ:=hide hK;clear hx hK;generalize actN n o=TT at *;open Sa215 in exact Ya54
theorem wkDo (w0 w:World) (wb:Nat) (n:Nd) (A:Ads) (G:Blks) (c:Nat→Nat) (v:Value) (L:List Mg) (o:Op5) (E:Nat→Addr) (hz:NdSz n 1048576) (hok:ndOk n=true) (hk:o.k.size≤1048576) (hmk:o.m.k.size≤1048576) (hL:L.length≤1048000) (h:WK w0 w wb n A G c v L) (he:Errs w0 E):Calls Tryz.prog 33 #[.pointer (some ⟨wb,0,none⟩),opw o] w fun e w'=>e= .returned (.int .i64 (wdoN n o).2.2)∧∃A' G' c' v',WK w0 w' wb (wdoN n o).1 A' G' c' v' (L++(wdoN n o).2.1):=by
 have hp:=(ndOk_parts hok).1;have hzk:n.kids.length≤1048600:=Nat.le_trans hz.k (by omega);have hrq:=(ndOk_parts hok).2.2.2.2.2;cases ho:opOk o with
 |false=>exact wkDo_bad w0 w wb n A G c v L o ho h
 |true=>
  cases ha:addrB n o with
  |false=>
   have hK:o.K=6:=by
    unfold addrB at ha;by_cases hK:o.K=6
    ·exact hK
    ·rw [decide_eq_false hK] at ha;simp at ha
   exact wkDo_far w0 w wb n A G c v L o hp hzk ho hK ha h
  |true=>
   have hw:wdoN n o=actN n o:=by
    unfold wdoN;rw [ho,ha];rfl
   rw [hw]
   clear hw
   rcases opOk_kind ho with hK|hK|hK|hK|hK|hK|hK
   ·refine wkDo_0 w0 w wb n A G c v L o ho hK (fun W hW=>?_) h
    have e:actN n o=((mintN n o).1,[],(mintN n o).2):=by
     unfold actN mintN;rw [if_pos hK];split<;>rfl
    rw [e];refine(wkMint w0 W wb n A G c v L o E hz hk hW he).mono ?_;exact Za57
   ·refine wkDo_1 w0 w wb n A G c v L o ho hK (fun W hW=>?_) h;have hpa:=opOk_admit ho hK
    have e:actN n o=((admitN n o.no o.k o.n).1,[],(admitN n o.no o.k o.n).2):=by
     unfold actN;rw [if_neg (by omega),if_pos hK]
    rw [e];refine(wkAdmit w0 W wb n A G c v L o E hz hrq hk (by omega) hpa.2.2.2.2 hW he).mono ?_;exact Za57
   ·refine wkDo_2 w0 w wb n A G c v L o ho hK (fun W hW=>?_) h;have hpr:=opOk_release ho hK
    have e:actN n o=((releaseN n o.no).1,[],(releaseN n o.no).2):=by
     unfold actN;rw [if_neg (by omega),if_neg (by omega),if_pos hK]
    rw [e];refine(wkRelease w0 W wb n A G c v L o E hz hrq (by omega) hpr.2 hW he).mono ?_;exact Za57
   ·refine wkDo_3 w0 w wb n A G c v L o ho hK (fun W hW=>?_) h
    have e:actN n o=(n,(wantN n o).1,(wantN n o).2):=by
     unfold actN wantN;rw [if_neg (by omega),if_neg (by omega),if_neg (by omega),if_pos hK];split<;>rfl
    rw [e];refine(wkWant w0 W wb n A G c v L o hk (by omega) hW).mono ?_;rintro e w' ⟨rfl,c',v',hW'⟩;exact⟨rfl,A,G,c',v',hW'⟩
   ·refine wkDo_4 w0 w wb n A G c v L o ho hK (fun W hW=>?_) h;have hpk:=opOk_key ho (by omega)
    have e:actN n o=backN n o:=by
     unfold actN backN;rw [if_neg (by omega),if_neg (by omega),if_neg (by omega),if_neg (by omega),if_pos hK]
    rw [e];exact wkBack w0 W wb n A G c v L o E hok hpk.1 hpk.2.1 hpk.2.2 (by omega) hW he
   ·refine wkDo_5 w0 w wb n A G c v L o ho hK (fun W hW=>?_) h
    have e:actN n o=(n,n.out.map (payM n),0):=by
     unfold actN;rw [if_neg (by omega),if_neg (by omega),if_neg (by omega),if_neg (by omega),if_neg (by omega),if_pos hK]
    rw [e];refine(wkTick w0 W wb n A G c v L o hz hL hW).mono ?_;rintro e w' ⟨rfl,c',v',hW'⟩;exact⟨rfl,A,G,c',v',hW'⟩
   ·have had:=addrB_hear ha hK;have hd:(decide (o.m.T=n.id)&&nearB n o.m.F)=true:=by rw [decide_eq_true had.1,had.2];rfl
    refine wkDo_6 w0 w wb n A G c v L o hp hzk hd ho hK (fun W hW=>?_) h
    have e:actN n o=hearN n o.m:=by
     unfold actN;rw [if_neg (by omega),if_neg (by omega),if_neg (by omega),if_neg (by omega),if_neg (by omega),if_neg (by omega)]
    rw [e];exact wkHear w0 W wb n A G c v L o E hz hok (opOk_hear ho hK) had.2 hmk (by omega) hW he
end Go.Proofs.YtppmcficiphgdaaGreatDoor
