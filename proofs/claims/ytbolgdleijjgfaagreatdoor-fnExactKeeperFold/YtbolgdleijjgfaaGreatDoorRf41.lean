/- Parts. -/
import Derived.Test.YtbolgdleijjgfaaGreatDoorRf33
import Derived.Test.YtbolgdleijjgfaaGreatDoorRf32
namespace Go.Proofs.YtbolgdleijjgfaaGreatDoor
open Go.Proofs.Tryz
set_option maxHeartbeats 8000000
open Go.RowKit
open Mth
variable {c:Nat->Nat} {w X Y W' W'':World} {b B x:Nat} {n:Nd} {A:bq} {G:aN}
def yI (b:Nat) (c:Nat->Nat):Nat->Nat:=λx=>if x < b then 0 else if c x=0 then 9 else if 6 < c x then 9 else c x
theorem abD (b:Nat) (c:Nat->Nat):∀x,6 < yI b c x->yI b c x=9:=λx hx=>by
 unfold yI at *;by_cases h1:x < b
 .rw [aFc h1] at hx;omega
 .rw [aE2 h1] at hx ⊢;by_cases h2:c x=0
  .rw [aFc h2]
  .rw [aE2 h2] at hx ⊢;by_cases h3:6 < c x
   .rw [aFc h3]
   .rw [aE2 h3] at hx;omega
theorem Yj (h:b<=x) (h0:c x=0):yI b c x=9:=by
 unfold yI;rw [aE2 Aaa,aFc h0]
theorem nM {k:Nat} (hlo:∀x,x < B->c x=0) (hb:b<=B) (h:c x=k) (h1:0 < k) (h6:k<=6):yI b c x=k:=by
 grind [yI]
theorem NO.flat (h:NO w B n A G c) (hb:b<=B):NO w b n A G (yI b c):=
 ⟨h.k,h.p,lM h.o hb,h.s,lM h.r hb,λx hx=>aFc hx,λx hx=>nM h.lo hb (h.ck x hx) Aaa Aaa,λx hx=>nM h.lo hb (h.cp x hx) Aaa Aaa,λx hx=>nM h.lo hb (h.co x hx) Aaa Aaa,λx hx=>nM h.lo hb (h.c4 x hx) Aaa Aaa,λx hx=>nM h.lo hb (h.ci x hx) Aaa Aaa,λx hx=>nM h.lo hb (h.cr x hx) Aaa Aaa,h.ni⟩
theorem NQ.flat (h:NQ w B n A G c) (hb:b<=B):NQ w b n A G (yI b c):=⟨h.toNO.flat hb,h.sq⟩
theorem Pe (hX:aH w X) (hb:Below 0 X Y) (hap:Apart c X Y) (hc:∀x,x < w.heap.size+3->c x=9):aH w Y:=
 ⟨hb.os.trans hX.os,hb.tape.trans hX.tape,hb.output.trans hX.output,aEU hX.size hb.size,λx hx=>(hap x (by have:=hX.size;omega) (by rw [hc x Aaa];omega)).trans (hX.block x hx)⟩
theorem yA.out (h:yA w W' W'') (hk:aA [w.heap.size+2] Y W') (hX:w.heap.size+2 < X.heap.size) (hc:∀x,x < w.heap.size+3->c x=9):Out c X Y W'':=by
 obtain⟨F,hk2,hF⟩:=h;refine⟨(w.heap.size+2)::F,(hk.mono (λx hx=>Aas)).trans (hk2.mono (λx hx=>Aai)),λy hy=>?_⟩;rcases aFd.1 hy with h1|h1
 .rw [h1];exact⟨hX,by rw [hc _ Aaa];omega⟩
 .have:=hF y h1;exact⟨Aaa,by rw [hc _ Aaa];omega⟩
theorem yA.out0 (h:yA w W' W'') (hc:∀x,x < w.heap.size+3->c x=9):Out c w W' W'':=by
 obtain⟨F,hk2,hF⟩:=h;exact⟨F,hk2,λy hy=>⟨hF y hy,by rw [hc _ (by have:=hF y hy;omega)];omega⟩⟩
set_option maxRecDepth 100000
theorem Nr (n:Nd) (A:bq) (K no:Int) (k:ByteArray) (nn mK mF mT mI mL:Int) (mk:ByteArray) (mN:Int) (w:World) (hz:eG n 1048576) (hk:k.size<=1048576) (hmk:mk.size<=1048576) (hok:dV n=true) (hop:bQ ⟨K,no,k,nn,⟨mK,mF,mT,mI,mL,mk,mN⟩⟩=true) (hK:K=1) (ha:cK w A n):Calls prog 99 #[gU n A,.agg (bV K no k nn mK mF mT mI mL mk mN)] w (jZ w ((fT n no k nn).1,[],(fT n no k nn).2)):=by
 subst hK;open aof in exact D6
theorem UW (n:Nd) (A:bq) (K no:Int) (k:ByteArray) (nn mK mF mT mI mL:Int) (mk:ByteArray) (mN:Int) (w:World) (hz:eG n 1048576) (hk:k.size<=1048576) (hmk:mk.size<=1048576) (hok:dV n=true) (hop:bQ ⟨K,no,k,nn,⟨mK,mF,mT,mI,mL,mk,mN⟩⟩=true) (hK:K=2) (ha:cK w A n):Calls prog 99 #[gU n A,.agg (bV K no k nn mK mF mT mI mL mk mN)] w (jZ w ((aU n no).1,[],(aU n no).2)):=by
 subst hK;open aoe in exact D6
theorem Q8 (n:Nd) (A:bq) (K no:Int) (k:ByteArray) (nn mK mF mT mI mL:Int) (mk:ByteArray) (mN:Int) (w:World) (hz:eG n 1048576) (hk:k.size<=1048576) (hmk:mk.size<=1048576) (hok:dV n=true) (hop:bQ ⟨K,no,k,nn,⟨mK,mF,mT,mI,mL,mk,mN⟩⟩=true) (hK:K=4) (hpar:n.par≠ -1) (ha:cK w A n):Calls prog 99 #[gU n A,.agg (bV K no k nn mK mF mT mI mL mk mN)] w (jZ w ((fu n n.par k nn).1,(fu n n.par k nn).2.1,if (fu n n.par k nn).2.2=true then 0 else 1)):=by
 subst hK;open aog in exact D6
theorem Rc (n:Nd) (A:bq) (K no:Int) (k:ByteArray) (nn mK mF mT mI mL:Int) (mk:ByteArray) (mN:Int) (w:World) (hz:eG n 1048576) (hk:k.size<=1048576) (hmk:mk.size<=1048576) (hok:dV n=true) (hop:bQ ⟨K,no,k,nn,⟨mK,mF,mT,mI,mL,mk,mN⟩⟩=true) (hK:K=3) (hpar:n.par= -1) (ha:cK w A n):Calls prog 99 #[gU n A,.agg (bV K no k nn mK mF mT mI mL mk mN)] w (jZ w (n,[],1)):=by
 subst hK;open aoj in exact D6
theorem Rf (n:Nd) (A:bq) (K no:Int) (k:ByteArray) (nn mK mF mT mI mL:Int) (mk:ByteArray) (mN:Int) (w:World) (hz:eG n 1048576) (hk:k.size<=1048576) (hmk:mk.size<=1048576) (hok:dV n=true) (hop:bQ ⟨K,no,k,nn,⟨mK,mF,mT,mI,mL,mk,mN⟩⟩=true) (hK:K=4) (hpar:n.par= -1) (ha:cK w A n):Calls prog 99 #[gU n A,.agg (bV K no k nn mK mF mT mI mL mk mN)] w (jZ w (n,[],1)):=by
 subst hK;open aoi in exact D6
theorem Jo (n:Nd) (A:bq) (K no:Int) (k:ByteArray) (nn mK mF mT mI mL:Int) (mk:ByteArray) (mN:Int) (w:World) (hz:eG n 1048576) (hk:k.size<=1048576) (hmk:mk.size<=1048576) (hok:dV n=true) (hop:bQ ⟨K,no,k,nn,⟨mK,mF,mT,mI,mL,mk,mN⟩⟩=true) (hK:K=0) (RL:List Pu) (ok:Bool) (hu:dB n.pu k 1 1 0 nn=(RL,ok)) (hpar:n.par≠ -1) (ha:cK w A n):Calls prog 99 #[gU n A,.agg (bV K no k nn mK mF mT mI mL mk mN)] w (jZ w (n,[],1)):=by
 subst hK;open aom in exact D6
theorem Jm (n:Nd) (A:bq) (K no:Int) (k:ByteArray) (nn mK mF mT mI mL:Int) (mk:ByteArray) (mN:Int) (w:World) (hz:eG n 1048576) (hk:k.size<=1048576) (hmk:mk.size<=1048576) (hok:dV n=true) (hop:bQ ⟨K,no,k,nn,⟨mK,mF,mT,mI,mL,mk,mN⟩⟩=true) (hK:K=0) (RL:List Pu) (hu:dB n.pu k 1 1 0 nn=(RL,false)) (hpar:n.par= -1) (ha:cK w A n):Calls prog 99 #[gU n A,.agg (bV K no k nn mK mF mT mI mL mk mN)] w (jZ w (n,[],1)):=by
 subst hK;open aol in exact D6
theorem GN (n:Nd) (A:bq) (K no:Int) (k:ByteArray) (nn mK mF mT mI mL:Int) (mk:ByteArray) (mN:Int) (w:World) (hz:eG n 1048576) (hk:k.size<=1048576) (hmk:mk.size<=1048576) (hok:dV n=true) (hop:bQ ⟨K,no,k,nn,⟨mK,mF,mT,mI,mL,mk,mN⟩⟩=true) (hK:K=0) (RL:List Pu) (hu:dB n.pu k 1 1 0 nn=(RL,true)) (hpar:n.par= -1) (ha:cK w A n):Calls prog 99 #[gU n A,.agg (bV K no k nn mK mF mT mI mL mk mN)] w (jZ w (setPu n RL,[],0)):=by
 subst hK;open aok in exact D6
theorem Rh (n:Nd) (A:bq) (K no:Int) (k:ByteArray) (nn mK mF mT mI mL:Int) (mk:ByteArray) (mN:Int) (w:World) (hz:eG n 1048576) (hk:k.size<=1048576) (hmk:mk.size<=1048576) (hok:dV n=true) (hop:bQ ⟨K,no,k,nn,⟨mK,mF,mT,mI,mL,mk,mN⟩⟩=true) (hK:K=5) (ha:cK w A n):Calls prog 99 #[gU n A,.agg (bV K no k nn mK mF mT mI mL mk mN)] w (jZ w (n,n.out.map (qU n),0)):=by
 subst hK;open aon in exact D6
end Go.Proofs.YtbolgdleijjgfaaGreatDoor
