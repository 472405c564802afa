/- Parts. -/
import Derived.Test.YtohmklmkjmlpjaaGreatDoorRk42
import Derived.Test.YtohmklmkjmlpjaaGreatDoorRk16
namespace Go.Proofs.YtohmklmkjmlpjaaGreatDoor
open Go.Proofs.Tryz
set_option maxHeartbeats 4000000
set_option maxRecDepth 100000
open Go.RowKit
open Mth
variable (w0 w:World) (wb:Nat) (n:Nd) (A:bV) (G:aY) (c:Nat->Nat) (v:Value) (L:List Mg) (o:gQ)
theorem adG (ho:cK o=false) (h:WK w0 w wb n A G c v L):Calls prog 138 #[.pointer (some ⟨wb,0,none⟩),jJ o] w λe w'=>e= .returned (.int .i64 (nD n o).2.2)/\∃A' G' c' v',WK w0 w' wb (nD n o).1 A' G' c' v' (L++(nD n o).2.1):=by
 have HR:Hid (nD n o=(n,[],3)):=by
  show nD n o=_
  unfold nD;rw [ho];rfl
 rw [ah HR];clear HR;open aE9 in exact ael
theorem adH (hp:eP n=true) (hz:n.kids.length<=1048600) (ho:cK o=true) (hK:o.K=6) (ha:xu n o=false) (h:WK w0 w wb n A G c v L):Calls prog 138 #[.pointer (some ⟨wb,0,none⟩),jJ o] w λe w'=>e= .returned (.int .i64 (nD n o).2.2)/\∃A' G' c' v',WK w0 w' wb (nD n o).1 A' G' c' v' (L++(nD n o).2.1):=by
 have HR:Hid (nD n o=(n,[],3)):=by
  show nD n o=_
  unfold nD;rw [ha,Bool.and_false];rfl
 rw [ah HR]
 have hd:(decide (o.m.T=n.id)&&eF n o.m.F)=false:=by
  unfold xu at ha;rw [hK] at ha;simpa using ha
 have HAD:=Hq (λW (hW:WK w0 W wb n A G c v L)=>adF w0 W wb n A G c v L o.m hp hz hW);rw [hd] at HAD;clear HR hp hz ha hd;have Ze:=Hq hK;clear hK;open aE8 in exact ael
theorem amg (ho:cK o=true) (hK:o.K=0) (hx:∀W,WK w0 W wb n A G c v L->Calls prog 175 #[.pointer (some ⟨wb,0,none⟩),jJ o] W λe w'=>e= .returned (.int .i64 (fF n o).2.2)/\∃A' G' c' v',WK w0 w' wb (fF n o).1 A' G' c' v' (L++(fF n o).2.1)) (h:WK w0 w wb n A G c v L):Calls prog 138 #[.pointer (some ⟨wb,0,none⟩),jJ o] w λe w'=>e= .returned (.int .i64 (fF n o).2.2)/\∃A' G' c' v',WK w0 w' wb (fF n o).1 A' G' c' v' (L++(fF n o).2.1):=by
 open aDU in exact Yk1
theorem amh (ho:cK o=true) (hK:o.K=1) (hx:∀W,WK w0 W wb n A G c v L->Calls prog 176 #[.pointer (some ⟨wb,0,none⟩),jJ o] W λe w'=>e= .returned (.int .i64 (fF n o).2.2)/\∃A' G' c' v',WK w0 w' wb (fF n o).1 A' G' c' v' (L++(fF n o).2.1)) (h:WK w0 w wb n A G c v L):Calls prog 138 #[.pointer (some ⟨wb,0,none⟩),jJ o] w λe w'=>e= .returned (.int .i64 (fF n o).2.2)/\∃A' G' c' v',WK w0 w' wb (fF n o).1 A' G' c' v' (L++(fF n o).2.1):=by
 open aDT in exact Yk1
theorem ami (ho:cK o=true) (hK:o.K=2) (hx:∀W,WK w0 W wb n A G c v L->Calls prog 177 #[.pointer (some ⟨wb,0,none⟩),jJ o] W λe w'=>e= .returned (.int .i64 (fF n o).2.2)/\∃A' G' c' v',WK w0 w' wb (fF n o).1 A' G' c' v' (L++(fF n o).2.1)) (h:WK w0 w wb n A G c v L):Calls prog 138 #[.pointer (some ⟨wb,0,none⟩),jJ o] w λe w'=>e= .returned (.int .i64 (fF n o).2.2)/\∃A' G' c' v',WK w0 w' wb (fF n o).1 A' G' c' v' (L++(fF n o).2.1):=by
 open aDS in exact Yk1
theorem amj (ho:cK o=true) (hK:o.K=3) (hx:∀W,WK w0 W wb n A G c v L->Calls prog 178 #[.pointer (some ⟨wb,0,none⟩),jJ o] W λe w'=>e= .returned (.int .i64 (fF n o).2.2)/\∃A' G' c' v',WK w0 w' wb (fF n o).1 A' G' c' v' (L++(fF n o).2.1)) (h:WK w0 w wb n A G c v L):Calls prog 138 #[.pointer (some ⟨wb,0,none⟩),jJ o] w λe w'=>e= .returned (.int .i64 (fF n o).2.2)/\∃A' G' c' v',WK w0 w' wb (fF n o).1 A' G' c' v' (L++(fF n o).2.1):=by
 open Sk9 in exact Yk1
theorem amk (ho:cK o=true) (hK:o.K=4) (hx:∀W,WK w0 W wb n A G c v L->Calls prog 179 #[.pointer (some ⟨wb,0,none⟩),jJ o] W λe w'=>e= .returned (.int .i64 (fF n o).2.2)/\∃A' G' c' v',WK w0 w' wb (fF n o).1 A' G' c' v' (L++(fF n o).2.1)) (h:WK w0 w wb n A G c v L):Calls prog 138 #[.pointer (some ⟨wb,0,none⟩),jJ o] w λe w'=>e= .returned (.int .i64 (fF n o).2.2)/\∃A' G' c' v',WK w0 w' wb (fF n o).1 A' G' c' v' (L++(fF n o).2.1):=by
 open Sk8 in exact Yk1
theorem aml (ho:cK o=true) (hK:o.K=5) (hx:∀W,WK w0 W wb n A G c v L->Calls prog 180 #[.pointer (some ⟨wb,0,none⟩),jJ o] W λe w'=>e= .returned (.int .i64 (fF n o).2.2)/\∃A' G' c' v',WK w0 w' wb (fF n o).1 A' G' c' v' (L++(fF n o).2.1)) (h:WK w0 w wb n A G c v L):Calls prog 138 #[.pointer (some ⟨wb,0,none⟩),jJ o] w λe w'=>e= .returned (.int .i64 (fF n o).2.2)/\∃A' G' c' v',WK w0 w' wb (fF n o).1 A' G' c' v' (L++(fF n o).2.1):=by
 open Sk7 in exact Yk1
theorem amm (hp:eP n=true) (hz:n.kids.length<=1048600) (hd:(decide (o.m.T=n.id)&&eF n o.m.F)=true) (ho:cK o=true) (hK:o.K=6) (hx:∀W,WK w0 W wb n A G c v L->Calls prog 181 #[.pointer (some ⟨wb,0,none⟩),jJ o] W λe w'=>e= .returned (.int .i64 (fF n o).2.2)/\∃A' G' c' v',WK w0 w' wb (fF n o).1 A' G' c' v' (L++(fF n o).2.1)) (h:WK w0 w wb n A G c v L):Calls prog 138 #[.pointer (some ⟨wb,0,none⟩),jJ o] w λe w'=>e= .returned (.int .i64 (fF n o).2.2)/\∃A' G' c' v',WK w0 w' wb (fF n o).1 A' G' c' v' (L++(fF n o).2.1):=by
 have HAD:=Hq (λW (hW:WK w0 W wb n A G c v L)=>adF w0 W wb n A G c v L o.m hp hz hW);rw [hd] at HAD;clear hp hz hd;have HX:=Hq hx;have HKQ:=Hq hK;clear hx hK;generalize fF n o=TT at *;open aE7 in exact ael
theorem aGK (w0 w:World) (wb:Nat) (n:Nd) (A:bV) (G:aY) (c:Nat->Nat) (v:Value) (L:List Mg) (o:gQ) (E:Nat->Addr) (hz:eX n 1048576) (hok:dY n=true) (hk:o.k.size<=1048576) (hmk:o.m.k.size<=1048576) (hL:L.length<=1048000) (h:WK w0 w wb n A G c v L) (he:iI w0 E):Calls prog 138 #[.pointer (some ⟨wb,0,none⟩),jJ o] w λe w'=>e= .returned (.int .i64 (nD n o).2.2)/\∃A' G' c' v',WK w0 w' wb (nD n o).1 A' G' c' v' (L++(nD n o).2.1):=by
 have hp:=(cu hok).1;have hzk:n.kids.length<=1048600:=Nat.le_trans hz.k Aaa;have hrq:=(cu hok).2.2.2.2.2;cases ho:cK o with
 |false=>exact adG w0 w wb n A G c v L o ho h
 |true=>
  cases ha:xu n o with
  |false=>
   have hK:o.K=6:=by
    unfold xu at ha;by_cases hK:o.K=6
    .exact hK
    .rw [decide_eq_false hK] at ha;simp at ha
   exact adH w0 w wb n A G c v L o hp hzk ho hK ha h
  |true=>
   have hw:nD n o=fF n o:=by
    unfold nD;rw [ho,ha];rfl
   rw [hw];clear hw;rcases JE ho with hK|hK|hK|hK|hK|hK|hK
   .refine amg w0 w wb n A G c v L o ho hK (λW hW=>?_) h
    have e:fF n o=((uK n o).1,[],(uK n o).2):=by
     unfold fF uK;rw [if_pos hK];split<;>rfl
    rw [e];refine(amo w0 W wb n A G c v L o E hz hk hW he).mono ?_;exact aaV
   .refine amh w0 w wb n A G c v L o ho hK (λW hW=>?_) h;have hpa:=Fq ho hK
    have e:fF n o=((fU n o.no o.k o.n).1,[],(fU n o.no o.k o.n).2):=by
     unfold fF;rw [if_neg Aaa,if_pos hK]
    rw [e];refine(afQ w0 W wb n A G c v L o E hz hrq hk Aaa hpa.2.2.2.2 hW he).mono ?_;exact aaV
   .refine ami w0 w wb n A G c v L o ho hK (λW hW=>?_) h;have hpr:=LJ ho hK
    have e:fF n o=((bC n o.no).1,[],(bC n o.no).2):=by
     unfold fF;rw [if_neg Aaa,if_neg Aaa,if_pos hK]
    rw [e];refine(Zb w0 W wb n A G c v L o E hz hrq Aaa hpr.2 hW he).mono ?_;exact aaV
   .refine amj w0 w wb n A G c v L o ho hK (λW hW=>?_) h
    have e:fF n o=(n,(Gb n o).1,(Gb n o).2):=by
     unfold fF Gb;rw [if_neg Aaa,if_neg Aaa,if_neg Aaa,if_pos hK];split<;>rfl
    rw [e];refine(amr w0 W wb n A G c v L o hk Aaa hW).mono ?_;rintro e w' ⟨rfl,c',v',hW'⟩;exact⟨rfl,A,G,c',v',hW'⟩
   .refine amk w0 w wb n A G c v L o ho hK (λW hW=>?_) h;have hpk:=Qf ho Aaa
    have e:fF n o=Es n o:=by
     unfold fF Es;rw [if_neg Aaa,if_neg Aaa,if_neg Aaa,if_neg Aaa,if_pos hK]
    rw [e];exact amf w0 W wb n A G c v L o E hok hpk.1 hpk.2.1 hpk.2.2 Aaa hW he
   .refine aml w0 w wb n A G c v L o ho hK (λW hW=>?_) h
    have e:fF n o=(n,n.out.map (nZ n),0):=by
     unfold fF;rw [if_neg Aaa,if_neg Aaa,if_neg Aaa,if_neg Aaa,if_neg Aaa,if_pos hK]
    rw [e];refine(amq w0 W wb n A G c v L o hz hL hW).mono ?_;rintro e w' ⟨rfl,c',v',hW'⟩;exact⟨rfl,A,G,c',v',hW'⟩
   .have had:=Eo ha hK;have hd:(decide (o.m.T=n.id)&&eF n o.m.F)=true:=by rw [decide_eq_true had.1,had.2];rfl
    refine amm w0 w wb n A G c v L o hp hzk hd ho hK (λW hW=>?_) h
    have e:fF n o=fZ n o.m:=by
     unfold fF;rw [if_neg Aaa,if_neg Aaa,if_neg Aaa,if_neg Aaa,if_neg Aaa,if_neg Aaa]
    rw [e];exact amn w0 W wb n A G c v L o E hz hok (JD ho hK) had.2 hmk Aaa hW he
end Go.Proofs.YtohmklmkjmlpjaaGreatDoor
