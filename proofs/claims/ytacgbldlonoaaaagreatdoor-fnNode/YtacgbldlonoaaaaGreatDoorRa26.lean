/- Parts. -/
import Derived.Test.YtacgbldlonoaaaaGreatDoorRa25
namespace Go.Proofs.YtacgbldlonoaaaaGreatDoor
set_option maxHeartbeats 4000000
set_option maxRecDepth 100000
open Go.RowKit
open Mth
theorem TI (w0 w:World) (wb:Nat) (n:Nd) (A:bE) (G:aU) (c:Nat→Nat) (v:Value) (L:List Mg) (o:jE) (ho:bX o=false) (h:WK w0 w wb n A G c v L):Calls Tryz.prog 35 #[.pointer (some ⟨wb,0,none⟩),jH o] w fun e w'=>e= .returned (.int .i64 (kR n o).2.2)∧∃A' G' c' v',WK w0 w' wb (kR n o).1 A' G' c' v' (L++(kR n o).2.1):=by
 have HR:Hid (kR n o=(n,[],3)):=by
  show kR n o=_
  unfold kR;rw [ho];rfl
 rw [ah HR];clear HR;open aiu in exact LQ
theorem TJ (w0 w:World) (wb:Nat) (n:Nd) (A:bE) (G:aU) (c:Nat→Nat) (v:Value) (L:List Mg) (o:jE) (hp:bQ n=true) (hz:n.kids.length≤1048600) (ho:bX o=true) (hK:o.K=6) (ha:sH n o=false) (h:WK w0 w wb n A G c v L):Calls Tryz.prog 35 #[.pointer (some ⟨wb,0,none⟩),jH o] w fun e w'=>e= .returned (.int .i64 (kR n o).2.2)∧∃A' G' c' v',WK w0 w' wb (kR n o).1 A' G' c' v' (L++(kR n o).2.1):=by
 have HR:Hid (kR n o=(n,[],3)):=by
  show kR n o=_
  unfold kR;rw [ha,Bool.and_false];rfl
 rw [ah HR]
 have hd:(decide (o.m.T=n.id)&&dB n o.m.F)=false:=by
  unfold sH at ha;rw [hK] at ha;simpa using ha
 have HAD:=hide (fun W (hW:WK w0 W wb n A G c v L)=>TH w0 W wb n A G c v L o.m hp hz hW);rw [hd] at HAD;clear HR hp hz ha hd;have HK6:=hide hK;clear hK;open ait in exact LQ
theorem abU (w0 w:World) (wb:Nat) (n:Nd) (A:bE) (G:aU) (c:Nat→Nat) (v:Value) (L:List Mg) (o:jE) (ho:bX o=true) (hK:o.K=0) (hx:∀W,WK w0 W wb n A G c v L→Calls Tryz.prog 107 #[.pointer (some ⟨wb,0,none⟩),jH o] W fun e w'=>e= .returned (.int .i64 (dW n o).2.2)∧∃A' G' c' v',WK w0 w' wb (dW n o).1 A' G' c' v' (L++(dW n o).2.1)) (h:WK w0 w wb n A G c v L):Calls Tryz.prog 35 #[.pointer (some ⟨wb,0,none⟩),jH o] w fun e w'=>e= .returned (.int .i64 (dW n o).2.2)∧∃A' G' c' v',WK w0 w' wb (dW n o).1 A' G' c' v' (L++(dW n o).2.1):=by
 open aos in exact Ya1
theorem abV (w0 w:World) (wb:Nat) (n:Nd) (A:bE) (G:aU) (c:Nat→Nat) (v:Value) (L:List Mg) (o:jE) (ho:bX o=true) (hK:o.K=1) (hx:∀W,WK w0 W wb n A G c v L→Calls Tryz.prog 108 #[.pointer (some ⟨wb,0,none⟩),jH o] W fun e w'=>e= .returned (.int .i64 (dW n o).2.2)∧∃A' G' c' v',WK w0 w' wb (dW n o).1 A' G' c' v' (L++(dW n o).2.1)) (h:WK w0 w wb n A G c v L):Calls Tryz.prog 35 #[.pointer (some ⟨wb,0,none⟩),jH o] w fun e w'=>e= .returned (.int .i64 (dW n o).2.2)∧∃A' G' c' v',WK w0 w' wb (dW n o).1 A' G' c' v' (L++(dW n o).2.1):=by
 open aor in exact Ya1
theorem abW (w0 w:World) (wb:Nat) (n:Nd) (A:bE) (G:aU) (c:Nat→Nat) (v:Value) (L:List Mg) (o:jE) (ho:bX o=true) (hK:o.K=2) (hx:∀W,WK w0 W wb n A G c v L→Calls Tryz.prog 109 #[.pointer (some ⟨wb,0,none⟩),jH o] W fun e w'=>e= .returned (.int .i64 (dW n o).2.2)∧∃A' G' c' v',WK w0 w' wb (dW n o).1 A' G' c' v' (L++(dW n o).2.1)) (h:WK w0 w wb n A G c v L):Calls Tryz.prog 35 #[.pointer (some ⟨wb,0,none⟩),jH o] w fun e w'=>e= .returned (.int .i64 (dW n o).2.2)∧∃A' G' c' v',WK w0 w' wb (dW n o).1 A' G' c' v' (L++(dW n o).2.1):=by
 open aoq in exact Ya1
theorem abX (w0 w:World) (wb:Nat) (n:Nd) (A:bE) (G:aU) (c:Nat→Nat) (v:Value) (L:List Mg) (o:jE) (ho:bX o=true) (hK:o.K=3) (hx:∀W,WK w0 W wb n A G c v L→Calls Tryz.prog 110 #[.pointer (some ⟨wb,0,none⟩),jH o] W fun e w'=>e= .returned (.int .i64 (dW n o).2.2)∧∃A' G' c' v',WK w0 w' wb (dW n o).1 A' G' c' v' (L++(dW n o).2.1)) (h:WK w0 w wb n A G c v L):Calls Tryz.prog 35 #[.pointer (some ⟨wb,0,none⟩),jH o] w fun e w'=>e= .returned (.int .i64 (dW n o).2.2)∧∃A' G' c' v',WK w0 w' wb (dW n o).1 A' G' c' v' (L++(dW n o).2.1):=by
 open Sa9 in exact Ya1
theorem abY (w0 w:World) (wb:Nat) (n:Nd) (A:bE) (G:aU) (c:Nat→Nat) (v:Value) (L:List Mg) (o:jE) (ho:bX o=true) (hK:o.K=4) (hx:∀W,WK w0 W wb n A G c v L→Calls Tryz.prog 111 #[.pointer (some ⟨wb,0,none⟩),jH o] W fun e w'=>e= .returned (.int .i64 (dW n o).2.2)∧∃A' G' c' v',WK w0 w' wb (dW n o).1 A' G' c' v' (L++(dW n o).2.1)) (h:WK w0 w wb n A G c v L):Calls Tryz.prog 35 #[.pointer (some ⟨wb,0,none⟩),jH o] w fun e w'=>e= .returned (.int .i64 (dW n o).2.2)∧∃A' G' c' v',WK w0 w' wb (dW n o).1 A' G' c' v' (L++(dW n o).2.1):=by
 open Sa8 in exact Ya1
theorem abZ (w0 w:World) (wb:Nat) (n:Nd) (A:bE) (G:aU) (c:Nat→Nat) (v:Value) (L:List Mg) (o:jE) (ho:bX o=true) (hK:o.K=5) (hx:∀W,WK w0 W wb n A G c v L→Calls Tryz.prog 50 #[.pointer (some ⟨wb,0,none⟩),jH o] W fun e w'=>e= .returned (.int .i64 (dW n o).2.2)∧∃A' G' c' v',WK w0 w' wb (dW n o).1 A' G' c' v' (L++(dW n o).2.1)) (h:WK w0 w wb n A G c v L):Calls Tryz.prog 35 #[.pointer (some ⟨wb,0,none⟩),jH o] w fun e w'=>e= .returned (.int .i64 (dW n o).2.2)∧∃A' G' c' v',WK w0 w' wb (dW n o).1 A' G' c' v' (L++(dW n o).2.1):=by
 open Sa7 in exact Ya1
theorem ab0 (w0 w:World) (wb:Nat) (n:Nd) (A:bE) (G:aU) (c:Nat→Nat) (v:Value) (L:List Mg) (o:jE) (hp:bQ n=true) (hz:n.kids.length≤1048600) (hd:(decide (o.m.T=n.id)&&dB n o.m.F)=true) (ho:bX o=true) (hK:o.K=6) (hx:∀W,WK w0 W wb n A G c v L→Calls Tryz.prog 112 #[.pointer (some ⟨wb,0,none⟩),jH o] W fun e w'=>e= .returned (.int .i64 (dW n o).2.2)∧∃A' G' c' v',WK w0 w' wb (dW n o).1 A' G' c' v' (L++(dW n o).2.1)) (h:WK w0 w wb n A G c v L):Calls Tryz.prog 35 #[.pointer (some ⟨wb,0,none⟩),jH o] w fun e w'=>e= .returned (.int .i64 (dW n o).2.2)∧∃A' G' c' v',WK w0 w' wb (dW n o).1 A' G' c' v' (L++(dW n o).2.1):=by
 have HAD:=hide (fun W (hW:WK w0 W wb n A G c v L)=>TH w0 W wb n A G c v L o.m hp hz hW);rw [hd] at HAD;clear hp hz hd;have HX:=hide hx;have HKQ:=hide hK;clear hx hK;generalize dW n o=TT at *;open ais in exact LQ
theorem ard (w0 w:World) (wb:Nat) (n:Nd) (A:bE) (G:aU) (c:Nat→Nat) (v:Value) (L:List Mg) (o:jE) (E:Nat→Addr) (hz:eH n 1048576) (hok:dG n=true) (hk:o.k.size≤1048576) (hmk:o.m.k.size≤1048576) (hL:L.length≤1048000) (h:WK w0 w wb n A G c v L) (he:gW w0 E):Calls Tryz.prog 35 #[.pointer (some ⟨wb,0,none⟩),jH o] w fun e w'=>e= .returned (.int .i64 (kR n o).2.2)∧∃A' G' c' v',WK w0 w' wb (kR n o).1 A' G' c' v' (L++(kR n o).2.1):=by
 have hp:=(bq hok).1;have hzk:n.kids.length≤1048600:=Nat.le_trans hz.k (by omega);have hrq:=(bq hok).2.2.2.2.2;cases ho:bX o with
 |false=>exact TI w0 w wb n A G c v L o ho h
 |true=>
  cases ha:sH n o with
  |false=>
   have hK:o.K=6:=by
    unfold sH at ha;by_cases hK:o.K=6
    ·exact hK
    ·rw [decide_eq_false hK] at ha;simp at ha
   exact TJ w0 w wb n A G c v L o hp hzk ho hK ha h
  |true=>
   have hw:kR n o=dW n o:=by
    unfold kR;rw [ho,ha];rfl
   rw [hw]
   clear hw
   rcases Dj ho with hK|hK|hK|hK|hK|hK|hK
   ·refine abU w0 w wb n A G c v L o ho hK (fun W hW=>?_) h
    have e:dW n o=((qg n o).1,[],(qg n o).2):=by
     unfold dW qg;rw [if_pos hK];split<;>rfl
    rw [e];refine(ab2 w0 W wb n A G c v L o E hz hk hW he).mono ?_;exact aa7
   ·refine abV w0 w wb n A G c v L o ho hK (fun W hW=>?_) h;have hpa:=zZ ho hK
    have e:dW n o=((eP n o.no o.k o.n).1,[],(eP n o.no o.k o.n).2):=by
     unfold dW;rw [if_neg (by omega),if_pos hK]
    rw [e];refine(Wj w0 W wb n A G c v L o E hz hrq hk (by omega) hpa.2.2.2.2 hW he).mono ?_;exact aa7
   ·refine abW w0 w wb n A G c v L o ho hK (fun W hW=>?_) h;have hpr:=EC ho hK
    have e:dW n o=((aX n o.no).1,[],(aX n o.no).2):=by
     unfold dW;rw [if_neg (by omega),if_neg (by omega),if_pos hK]
    rw [e];refine(OY w0 W wb n A G c v L o E hz hrq (by omega) hpr.2 hW he).mono ?_;exact aa7
   ·refine abX w0 w wb n A G c v L o ho hK (fun W hW=>?_) h
    have e:dW n o=(n,(AL n o).1,(AL n o).2):=by
     unfold dW AL;rw [if_neg (by omega),if_neg (by omega),if_neg (by omega),if_pos hK];split<;>rfl
    rw [e];refine(ab4 w0 W wb n A G c v L o hk (by omega) hW).mono ?_;rintro e w' ⟨rfl,c',v',hW'⟩;exact⟨rfl,A,G,c',v',hW'⟩
   ·refine abY w0 w wb n A G c v L o ho hK (fun W hW=>?_) h;have hpk:=Ir ho (by omega)
    have e:dW n o=zl n o:=by
     unfold dW zl;rw [if_neg (by omega),if_neg (by omega),if_neg (by omega),if_neg (by omega),if_pos hK]
    rw [e];exact abT w0 W wb n A G c v L o E hok hpk.1 hpk.2.1 hpk.2.2 (by omega) hW he
   ·refine abZ w0 w wb n A G c v L o ho hK (fun W hW=>?_) h
    have e:dW n o=(n,n.out.map (lG n),0):=by
     unfold dW;rw [if_neg (by omega),if_neg (by omega),if_neg (by omega),if_neg (by omega),if_neg (by omega),if_pos hK]
    rw [e];refine(ab3 w0 W wb n A G c v L o hz hL hW).mono ?_;rintro e w' ⟨rfl,c',v',hW'⟩;exact⟨rfl,A,G,c',v',hW'⟩
   ·have had:=zh ha hK;have hd:(decide (o.m.T=n.id)&&dB n o.m.F)=true:=by rw [decide_eq_true had.1,had.2];rfl
    refine ab0 w0 w wb n A G c v L o hp hzk hd ho hK (fun W hW=>?_) h
    have e:dW n o=eF n o.m:=by
     unfold dW;rw [if_neg (by omega),if_neg (by omega),if_neg (by omega),if_neg (by omega),if_neg (by omega),if_neg (by omega)]
    rw [e];exact ab1 w0 W wb n A G c v L o E hz hok (Di ho hK) had.2 hmk (by omega) hW he
end Go.Proofs.YtacgbldlonoaaaaGreatDoor
