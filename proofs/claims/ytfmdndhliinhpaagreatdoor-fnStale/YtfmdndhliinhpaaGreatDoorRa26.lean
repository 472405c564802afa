/- Parts. -/
import Derived.Test.YtfmdndhliinhpaaGreatDoorRa25
namespace Go.Proofs.YtfmdndhliinhpaaGreatDoor
set_option maxHeartbeats 4000000
set_option maxRecDepth 100000
open Go.RowKit
open Mth
theorem Ws (w0 w:World) (wb:Nat) (n:Nd) (A:bQ) (G:aX) (c:Nat→Nat) (v:Value) (L:List Mg) (o:iK) (ho:cZ o=false) (h:WK w0 w wb n A G c v L):Calls Tryz.prog 15 #[.pointer (some ⟨wb,0,none⟩),jY o] w fun e w'=>e= .returned (.int .i64 (jJ n o).2.2)∧∃A' G' c' v',WK w0 w' wb (jJ n o).1 A' G' c' v' (L++(jJ n o).2.1):=by
 have HR:Hid (jJ n o=(n,[],3)):=by
  show jJ n o=_
  unfold jJ;rw [ho];rfl
 rw [ah HR];clear HR;open alR in exact Ov
theorem Wt (w0 w:World) (wb:Nat) (n:Nd) (A:bQ) (G:aX) (c:Nat→Nat) (v:Value) (L:List Mg) (o:iK) (hp:dx n=true) (hz:n.kids.length≤1048600) (ho:cZ o=true) (hK:o.K=6) (ha:mQ n o=false) (h:WK w0 w wb n A G c v L):Calls Tryz.prog 15 #[.pointer (some ⟨wb,0,none⟩),jY o] w fun e w'=>e= .returned (.int .i64 (jJ n o).2.2)∧∃A' G' c' v',WK w0 w' wb (jJ n o).1 A' G' c' v' (L++(jJ n o).2.1):=by
 have HR:Hid (jJ n o=(n,[],3)):=by
  show jJ n o=_
  unfold jJ;rw [ha,Bool.and_false];rfl
 rw [ah HR]
 have hd:(decide (o.m.T=n.id)&&dH n o.m.F)=false:=by
  unfold mQ at ha;rw [hK] at ha;simpa using ha
 have HAD:=hide (fun W (hW:WK w0 W wb n A G c v L)=>Wq w0 W wb n A G c v L o.m hp hz hW);rw [hd] at HAD;clear HR hp hz ha hd;have HK6:=hide hK;clear hK;open alQ in exact Ov
theorem aez (w0 w:World) (wb:Nat) (n:Nd) (A:bQ) (G:aX) (c:Nat→Nat) (v:Value) (L:List Mg) (o:iK) (ho:cZ o=true) (hK:o.K=0) (hx:∀W,WK w0 W wb n A G c v L→Calls Tryz.prog 46 #[.pointer (some ⟨wb,0,none⟩),jY o] W fun e w'=>e= .returned (.int .i64 (dX n o).2.2)∧∃A' G' c' v',WK w0 w' wb (dX n o).1 A' G' c' v' (L++(dX n o).2.1)) (h:WK w0 w wb n A G c v L):Calls Tryz.prog 15 #[.pointer (some ⟨wb,0,none⟩),jY o] w fun e w'=>e= .returned (.int .i64 (dX n o).2.2)∧∃A' G' c' v',WK w0 w' wb (dX n o).1 A' G' c' v' (L++(dX n o).2.1):=by
 open asB in exact Ya1
theorem aeA (w0 w:World) (wb:Nat) (n:Nd) (A:bQ) (G:aX) (c:Nat→Nat) (v:Value) (L:List Mg) (o:iK) (ho:cZ o=true) (hK:o.K=1) (hx:∀W,WK w0 W wb n A G c v L→Calls Tryz.prog 47 #[.pointer (some ⟨wb,0,none⟩),jY o] W fun e w'=>e= .returned (.int .i64 (dX n o).2.2)∧∃A' G' c' v',WK w0 w' wb (dX n o).1 A' G' c' v' (L++(dX n o).2.1)) (h:WK w0 w wb n A G c v L):Calls Tryz.prog 15 #[.pointer (some ⟨wb,0,none⟩),jY o] w fun e w'=>e= .returned (.int .i64 (dX n o).2.2)∧∃A' G' c' v',WK w0 w' wb (dX n o).1 A' G' c' v' (L++(dX n o).2.1):=by
 open asA in exact Ya1
theorem aeB (w0 w:World) (wb:Nat) (n:Nd) (A:bQ) (G:aX) (c:Nat→Nat) (v:Value) (L:List Mg) (o:iK) (ho:cZ o=true) (hK:o.K=2) (hx:∀W,WK w0 W wb n A G c v L→Calls Tryz.prog 48 #[.pointer (some ⟨wb,0,none⟩),jY o] W fun e w'=>e= .returned (.int .i64 (dX n o).2.2)∧∃A' G' c' v',WK w0 w' wb (dX n o).1 A' G' c' v' (L++(dX n o).2.1)) (h:WK w0 w wb n A G c v L):Calls Tryz.prog 15 #[.pointer (some ⟨wb,0,none⟩),jY o] w fun e w'=>e= .returned (.int .i64 (dX n o).2.2)∧∃A' G' c' v',WK w0 w' wb (dX n o).1 A' G' c' v' (L++(dX n o).2.1):=by
 open asz in exact Ya1
theorem aeC (w0 w:World) (wb:Nat) (n:Nd) (A:bQ) (G:aX) (c:Nat→Nat) (v:Value) (L:List Mg) (o:iK) (ho:cZ o=true) (hK:o.K=3) (hx:∀W,WK w0 W wb n A G c v L→Calls Tryz.prog 49 #[.pointer (some ⟨wb,0,none⟩),jY o] W fun e w'=>e= .returned (.int .i64 (dX n o).2.2)∧∃A' G' c' v',WK w0 w' wb (dX n o).1 A' G' c' v' (L++(dX n o).2.1)) (h:WK w0 w wb n A G c v L):Calls Tryz.prog 15 #[.pointer (some ⟨wb,0,none⟩),jY o] w fun e w'=>e= .returned (.int .i64 (dX n o).2.2)∧∃A' G' c' v',WK w0 w' wb (dX n o).1 A' G' c' v' (L++(dX n o).2.1):=by
 open Sa9 in exact Ya1
theorem aeD (w0 w:World) (wb:Nat) (n:Nd) (A:bQ) (G:aX) (c:Nat→Nat) (v:Value) (L:List Mg) (o:iK) (ho:cZ o=true) (hK:o.K=4) (hx:∀W,WK w0 W wb n A G c v L→Calls Tryz.prog 50 #[.pointer (some ⟨wb,0,none⟩),jY o] W fun e w'=>e= .returned (.int .i64 (dX n o).2.2)∧∃A' G' c' v',WK w0 w' wb (dX n o).1 A' G' c' v' (L++(dX n o).2.1)) (h:WK w0 w wb n A G c v L):Calls Tryz.prog 15 #[.pointer (some ⟨wb,0,none⟩),jY o] w fun e w'=>e= .returned (.int .i64 (dX n o).2.2)∧∃A' G' c' v',WK w0 w' wb (dX n o).1 A' G' c' v' (L++(dX n o).2.1):=by
 open Sa8 in exact Ya1
theorem aeE (w0 w:World) (wb:Nat) (n:Nd) (A:bQ) (G:aX) (c:Nat→Nat) (v:Value) (L:List Mg) (o:iK) (ho:cZ o=true) (hK:o.K=5) (hx:∀W,WK w0 W wb n A G c v L→Calls Tryz.prog 51 #[.pointer (some ⟨wb,0,none⟩),jY o] W fun e w'=>e= .returned (.int .i64 (dX n o).2.2)∧∃A' G' c' v',WK w0 w' wb (dX n o).1 A' G' c' v' (L++(dX n o).2.1)) (h:WK w0 w wb n A G c v L):Calls Tryz.prog 15 #[.pointer (some ⟨wb,0,none⟩),jY o] w fun e w'=>e= .returned (.int .i64 (dX n o).2.2)∧∃A' G' c' v',WK w0 w' wb (dX n o).1 A' G' c' v' (L++(dX n o).2.1):=by
 open Sa7 in exact Ya1
theorem aeF (w0 w:World) (wb:Nat) (n:Nd) (A:bQ) (G:aX) (c:Nat→Nat) (v:Value) (L:List Mg) (o:iK) (hp:dx n=true) (hz:n.kids.length≤1048600) (hd:(decide (o.m.T=n.id)&&dH n o.m.F)=true) (ho:cZ o=true) (hK:o.K=6) (hx:∀W,WK w0 W wb n A G c v L→Calls Tryz.prog 52 #[.pointer (some ⟨wb,0,none⟩),jY o] W fun e w'=>e= .returned (.int .i64 (dX n o).2.2)∧∃A' G' c' v',WK w0 w' wb (dX n o).1 A' G' c' v' (L++(dX n o).2.1)) (h:WK w0 w wb n A G c v L):Calls Tryz.prog 15 #[.pointer (some ⟨wb,0,none⟩),jY o] w fun e w'=>e= .returned (.int .i64 (dX n o).2.2)∧∃A' G' c' v',WK w0 w' wb (dX n o).1 A' G' c' v' (L++(dX n o).2.1):=by
 have HAD:=hide (fun W (hW:WK w0 W wb n A G c v L)=>Wq w0 W wb n A G c v L o.m hp hz hW);rw [hd] at HAD;clear hp hz hd;have HX:=hide hx;have HKQ:=hide hK;clear hx hK;generalize dX n o=TT at *;open alP in exact Ov
theorem avy (w0 w:World) (wb:Nat) (n:Nd) (A:bQ) (G:aX) (c:Nat→Nat) (v:Value) (L:List Mg) (o:iK) (E:Nat→Addr) (hz:eF n 1048576) (hok:dJ n=true) (hk:o.k.size≤1048576) (hmk:o.m.k.size≤1048576) (hL:L.length≤1048000) (h:WK w0 w wb n A G c v L) (he:iw w0 E):Calls Tryz.prog 15 #[.pointer (some ⟨wb,0,none⟩),jY o] w fun e w'=>e= .returned (.int .i64 (jJ n o).2.2)∧∃A' G' c' v',WK w0 w' wb (jJ n o).1 A' G' c' v' (L++(jJ n o).2.1):=by
 have hp:=(bf hok).1;have hzk:n.kids.length≤1048600:=Nat.le_trans hz.k (by omega);have hrq:=(bf hok).2.2.2.2.2;cases ho:cZ o with
 |false=>exact Ws w0 w wb n A G c v L o ho h
 |true=>
  cases ha:mQ n o with
  |false=>
   have hK:o.K=6:=by
    unfold mQ at ha;by_cases hK:o.K=6
    ·exact hK
    ·rw [decide_eq_false hK] at ha;simp at ha
   exact Wt w0 w wb n A G c v L o hp hzk ho hK ha h
  |true=>
   have hw:jJ n o=dX n o:=by
    unfold jJ;rw [ho,ha];rfl
   rw [hw]
   clear hw
   rcases EC ho with hK|hK|hK|hK|hK|hK|hK
   ·refine aez w0 w wb n A G c v L o ho hK (fun W hW=>?_) h
    have e:dX n o=((rz n o).1,[],(rz n o).2):=by
     unfold dX rz;rw [if_pos hK];split<;>rfl
    rw [e];refine(aeH w0 W wb n A G c v L o E hz hk hW he).mono ?_;exact adF
   ·refine aeA w0 w wb n A G c v L o ho hK (fun W hW=>?_) h;have hpa:=BP ho hK
    have e:dX n o=((bV n o.no o.k o.n).1,[],(bV n o.no o.k o.n).2):=by
     unfold dX;rw [if_neg (by omega),if_pos hK]
    rw [e];refine(YT w0 W wb n A G c v L o E hz hrq hk (by omega) hpa.2.2.2.2 hW he).mono ?_;exact adF
   ·refine aeB w0 w wb n A G c v L o ho hK (fun W hW=>?_) h;have hpr:=Gd ho hK
    have e:dX n o=((aI n o.no).1,[],(aI n o.no).2):=by
     unfold dX;rw [if_neg (by omega),if_neg (by omega),if_pos hK]
    rw [e];refine(QZ w0 W wb n A G c v L o E hz hrq (by omega) hpr.2 hW he).mono ?_;exact adF
   ·refine aeC w0 w wb n A G c v L o ho hK (fun W hW=>?_) h
    have e:dX n o=(n,(Co n o).1,(Co n o).2):=by
     unfold dX Co;rw [if_neg (by omega),if_neg (by omega),if_neg (by omega),if_pos hK];split<;>rfl
    rw [e];refine(aeJ w0 W wb n A G c v L o hk (by omega) hW).mono ?_;rintro e w' ⟨rfl,c',v',hW'⟩;exact⟨rfl,A,G,c',v',hW'⟩
   ·refine aeD w0 w wb n A G c v L o ho hK (fun W hW=>?_) h;have hpk:=JZ ho (by omega)
    have e:dX n o=AY n o:=by
     unfold dX AY;rw [if_neg (by omega),if_neg (by omega),if_neg (by omega),if_neg (by omega),if_pos hK]
    rw [e];exact aey w0 W wb n A G c v L o E hok hpk.1 hpk.2.1 hpk.2.2 (by omega) hW he
   ·refine aeE w0 w wb n A G c v L o ho hK (fun W hW=>?_) h
    have e:dX n o=(n,n.out.map (mP n),0):=by
     unfold dX;rw [if_neg (by omega),if_neg (by omega),if_neg (by omega),if_neg (by omega),if_neg (by omega),if_pos hK]
    rw [e];refine(aeI w0 W wb n A G c v L o hz hL hW).mono ?_;rintro e w' ⟨rfl,c',v',hW'⟩;exact⟨rfl,A,G,c',v',hW'⟩
   ·have had:=uO ha hK;have hd:(decide (o.m.T=n.id)&&dH n o.m.F)=true:=by rw [decide_eq_true had.1,had.2];rfl
    refine aeF w0 w wb n A G c v L o hp hzk hd ho hK (fun W hW=>?_) h
    have e:dX n o=eD n o.m:=by
     unfold dX;rw [if_neg (by omega),if_neg (by omega),if_neg (by omega),if_neg (by omega),if_neg (by omega),if_neg (by omega)]
    rw [e];exact aeG w0 W wb n A G c v L o E hz hok (yP ho hK) had.2 hmk (by omega) hW he
end Go.Proofs.YtfmdndhliinhpaaGreatDoor
