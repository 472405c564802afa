/- Parts. -/
import Derived.Test.YtfachhcijcjbpaaGreatDoorRw40
import Derived.Test.YtfachhcijcjbpaaGreatDoorRw39
namespace Go.Proofs.YtfachhcijcjbpaaGreatDoor
open Go.Proofs.Tryz
set_option maxHeartbeats 8000000
set_option maxRecDepth 100000
open Go.RowKit
open Mth
variable {w W' w' W'' X Y:World} {c I:Nat->Nat} {n:Nd} {A:bg} {B x k b L sz gk gs:Nat} {G:aR} {α:Type} {enc:α->List Value} {a:Option Addr} {l:List α}
def Ee (w W' W'':World):Prop:=∃F,aC F W' W''/\∀x∈F,x < w.heap.size
theorem Ee.refl:Ee w W' W':=⟨[],aC.refl _ _,λx hx=>Aay⟩
theorem Ee.kc (h:Ee w W' W'') (hc:∀x,x < w.heap.size->c x=k):KC c k W' W'':=by
 obtain⟨F,hk,hF⟩:=h;exact KC.keeps hk (λx hx=>hc x (hF x hx))
theorem NQ.kc0 (h:NQ w B n A G c) (hk:KC c 0 w w'):NQ w' B n A G c:=⟨h.toNO.kc0 hk,hk.seenQ h.sq h.c4 h.ci Aaa Aaa⟩
def jJ (w:World) (R:Nd×List Mg×Int) (e:Ending) (w':World):Prop:=∃A' a cp,e= .returned (.tuple #[gP R.1 A',.slice a R.2.1.length cp,.int .i64 R.2.2])/\(∀W'',Ee w w' W''->RM W'' A' R.1)/\(∀W'',Ee w w' W''->GR.At lQ 7 W'' a R.2.1)/\aG w w'
theorem Rp (n:Nd) (A:bg) (K no:Int) (k:ByteArray) (nn mK mF mT mI mL:Int) (mk:ByteArray) (mN:Int) (w:World) (hz:eH n 1048576) (hok:dQ n=false) (ha:bX w A n):Calls prog 68 #[gP n A,.agg (bE K no k nn mK mF mT mI mL mk mN)] w (jJ w (n,[],3)):=by
 open aoi in exact DJ
theorem Rs (n:Nd) (A:bg) (K no:Int) (k:ByteArray) (nn mK mF mT mI mL:Int) (mk:ByteArray) (mN:Int) (w:World) (hz:eH n 1048576) (hk:k.size<=1048576) (hmk:mk.size<=1048576) (hok:dQ n=true) (hop:bC ⟨K,no,k,nn,⟨mK,mF,mT,mI,mL,mk,mN⟩⟩=false) (ha:bX w A n):Calls prog 68 #[gP n A,.agg (bE K no k nn mK mF mT mI mL mk mN)] w (jJ w (n,[],3)):=by
 open aoh in exact DJ
def xZ (b:Nat) (c:Nat->Nat):Nat->Nat:=λx=>if x < b then 0 else if c x=0 then 9 else if 6 < c x then 9 else c x
theorem abL (b:Nat) (c:Nat->Nat):∀x,6 < xZ b c x->xZ b c x=9:=λx hx=>by
 unfold xZ at *;by_cases h1:x < b
 .rw [aER h1] at hx;omega
 .rw [aEG h1] at hx ⊢;by_cases h2:c x=0
  .rw [aER h2]
  .rw [aEG h2] at hx ⊢;by_cases h3:6 < c x
   .rw [aER h3]
   .rw [aEG h3] at hx;omega
theorem Yj (h:b<=x) (h0:c x=0):xZ b c x=9:=by
 unfold xZ;rw [aEG Aaa,aER h0]
theorem mU (hlo:∀x,x < B->c x=0) (hb:b<=B) (h:c x=k) (h1:0 < k) (h6:k<=6):xZ b c x=k:=by
 grind [xZ]
theorem NO.flat (h:NO w B n A G c) (hb:b<=B):NO w b n A G (xZ b c):=
 ⟨h.k,h.p,kX h.o hb,h.s,kX h.r hb,λx hx=>aER hx,λx hx=>mU h.lo hb (h.ck x hx) Aaa Aaa,λx hx=>mU h.lo hb (h.cp x hx) Aaa Aaa,λx hx=>mU h.lo hb (h.co x hx) Aaa Aaa,λx hx=>mU h.lo hb (h.c4 x hx) Aaa Aaa,λx hx=>mU h.lo hb (h.ci x hx) Aaa Aaa,λx hx=>mU h.lo hb (h.cr x hx) Aaa Aaa,h.ni⟩
theorem NQ.flat (h:NQ w B n A G c) (hb:b<=B):NQ w b n A G (xZ b c):=⟨h.toNO.flat hb,h.sq⟩
theorem Pw (hX:aG w X) (hb:Below 0 X Y) (hap:Apart c X Y) (hc:∀x,x < w.heap.size+3->c x=9):aG w Y:=
 ⟨hb.os.trans hX.os,hb.tape.trans hX.tape,hb.output.trans hX.output,aEA hX.size hb.size,λx hx=>(hap x (by have:=hX.size;omega) (by rw [hc x Aaa];omega)).trans (hX.block x hx)⟩
theorem Ee.out (h:Ee w W' W'') (hk:aC [w.heap.size+2] Y W') (hX:w.heap.size+2 < X.heap.size) (hc:∀x,x < w.heap.size+3->c x=9):Out c X Y W'':=by
 obtain⟨F,hk2,hF⟩:=h;refine⟨(w.heap.size+2)::F,(hk.mono (λx hx=>Aba)).trans (hk2.mono (λx hx=>Aak)),λy hy=>?_⟩;rcases aET.1 hy with h1|h1
 .rw [h1];exact⟨hX,by rw [hc _ Aaa];omega⟩
 .have:=hF y h1;exact⟨Aaa,by rw [hc _ Aaa];omega⟩
theorem Ee.out0 (h:Ee w W' W'') (hc:∀x,x < w.heap.size+3->c x=9):Out c w W' W'':=by
 obtain⟨F,hk2,hF⟩:=h;exact⟨F,hk2,λy hy=>⟨hF y hy,by rw [hc _ (by have:=hF y hy;omega)];omega⟩⟩
theorem NC (n:Nd) (A:bg) (K no:Int) (k:ByteArray) (nn mK mF mT mI mL:Int) (mk:ByteArray) (mN:Int) (w:World) (hz:eH n 1048576) (hk:k.size<=1048576) (hmk:mk.size<=1048576) (hok:dQ n=true) (hop:bC ⟨K,no,k,nn,⟨mK,mF,mT,mI,mL,mk,mN⟩⟩=true) (hK:K=1) (ha:bX w A n):Calls prog 68 #[gP n A,.agg (bE K no k nn mK mF mT mI mL mk mN)] w (jJ w ((fE n no k nn).1,[],(fE n no k nn).2)):=by
 subst hK;open aok in exact DJ
theorem Vi (n:Nd) (A:bg) (K no:Int) (k:ByteArray) (nn mK mF mT mI mL:Int) (mk:ByteArray) (mN:Int) (w:World) (hz:eH n 1048576) (hk:k.size<=1048576) (hmk:mk.size<=1048576) (hok:dQ n=true) (hop:bC ⟨K,no,k,nn,⟨mK,mF,mT,mI,mL,mk,mN⟩⟩=true) (hK:K=2) (ha:bX w A n):Calls prog 68 #[gP n A,.agg (bE K no k nn mK mF mT mI mL mk mN)] w (jJ w ((aQ n no).1,[],(aQ n no).2)):=by
 subst hK;open aoj in exact DJ
theorem Ro (n:Nd) (A:bg) (K no:Int) (k:ByteArray) (nn mK mF mT mI mL:Int) (mk:ByteArray) (mN:Int) (w:World) (hz:eH n 1048576) (hk:k.size<=1048576) (hmk:mk.size<=1048576) (hok:dQ n=true) (hop:bC ⟨K,no,k,nn,⟨mK,mF,mT,mI,mL,mk,mN⟩⟩=true) (hK:K=4) (hpar:n.par≠ -1) (ha:bX w A n):Calls prog 68 #[gP n A,.agg (bE K no k nn mK mF mT mI mL mk mN)] w (jJ w ((eU n n.par k nn).1,(eU n n.par k nn).2.1,if (eU n n.par k nn).2.2=true then 0 else 1)):=by
 subst hK;open aol in exact DJ
theorem Ru (n:Nd) (A:bg) (K no:Int) (k:ByteArray) (nn mK mF mT mI mL:Int) (mk:ByteArray) (mN:Int) (w:World) (hz:eH n 1048576) (hk:k.size<=1048576) (hmk:mk.size<=1048576) (hok:dQ n=true) (hop:bC ⟨K,no,k,nn,⟨mK,mF,mT,mI,mL,mk,mN⟩⟩=true) (hK:K=3) (hpar:n.par= -1) (ha:bX w A n):Calls prog 68 #[gP n A,.agg (bE K no k nn mK mF mT mI mL mk mN)] w (jJ w (n,[],1)):=by
 subst hK;open aoo in exact DJ
theorem Rv (n:Nd) (A:bg) (K no:Int) (k:ByteArray) (nn mK mF mT mI mL:Int) (mk:ByteArray) (mN:Int) (w:World) (hz:eH n 1048576) (hk:k.size<=1048576) (hmk:mk.size<=1048576) (hok:dQ n=true) (hop:bC ⟨K,no,k,nn,⟨mK,mF,mT,mI,mL,mk,mN⟩⟩=true) (hK:K=4) (hpar:n.par= -1) (ha:bX w A n):Calls prog 68 #[gP n A,.agg (bE K no k nn mK mF mT mI mL mk mN)] w (jJ w (n,[],1)):=by
 subst hK;open aon in exact DJ
theorem Jo (n:Nd) (A:bg) (K no:Int) (k:ByteArray) (nn mK mF mT mI mL:Int) (mk:ByteArray) (mN:Int) (w:World) (hz:eH n 1048576) (hk:k.size<=1048576) (hmk:mk.size<=1048576) (hok:dQ n=true) (hop:bC ⟨K,no,k,nn,⟨mK,mF,mT,mI,mL,mk,mN⟩⟩=true) (hK:K=0) (RL:List Pu) (ok:Bool) (hu:cK n.pu k 1 1 0 nn=(RL,ok)) (hpar:n.par≠ -1) (ha:bX w A n):Calls prog 68 #[gP n A,.agg (bE K no k nn mK mF mT mI mL mk mN)] w (jJ w (n,[],1)):=by
 subst hK;open aor in exact DJ
theorem Jm (n:Nd) (A:bg) (K no:Int) (k:ByteArray) (nn mK mF mT mI mL:Int) (mk:ByteArray) (mN:Int) (w:World) (hz:eH n 1048576) (hk:k.size<=1048576) (hmk:mk.size<=1048576) (hok:dQ n=true) (hop:bC ⟨K,no,k,nn,⟨mK,mF,mT,mI,mL,mk,mN⟩⟩=true) (hK:K=0) (RL:List Pu) (hu:cK n.pu k 1 1 0 nn=(RL,false)) (hpar:n.par= -1) (ha:bX w A n):Calls prog 68 #[gP n A,.agg (bE K no k nn mK mF mT mI mL mk mN)] w (jJ w (n,[],1)):=by
 subst hK;open aoq in exact DJ
theorem Gz (n:Nd) (A:bg) (K no:Int) (k:ByteArray) (nn mK mF mT mI mL:Int) (mk:ByteArray) (mN:Int) (w:World) (hz:eH n 1048576) (hk:k.size<=1048576) (hmk:mk.size<=1048576) (hok:dQ n=true) (hop:bC ⟨K,no,k,nn,⟨mK,mF,mT,mI,mL,mk,mN⟩⟩=true) (hK:K=0) (RL:List Pu) (hu:cK n.pu k 1 1 0 nn=(RL,true)) (hpar:n.par= -1) (ha:bX w A n):Calls prog 68 #[gP n A,.agg (bE K no k nn mK mF mT mI mL mk mN)] w (jJ w (setPu n RL,[],0)):=by
 subst hK;open aop in exact DJ
theorem Rw (n:Nd) (A:bg) (K no:Int) (k:ByteArray) (nn mK mF mT mI mL:Int) (mk:ByteArray) (mN:Int) (w:World) (hz:eH n 1048576) (hk:k.size<=1048576) (hmk:mk.size<=1048576) (hok:dQ n=true) (hop:bC ⟨K,no,k,nn,⟨mK,mF,mT,mI,mL,mk,mN⟩⟩=true) (hK:K=5) (ha:bX w A n):Calls prog 68 #[gP n A,.agg (bE K no k nn mK mF mT mI mL mk mN)] w (jJ w (n,n.out.map (qh n),0)):=by
 subst hK;open aos in exact DJ
theorem axL {α:Type} {enc:α->List Value} {sz:Nat} {c:Nat->Nat} {k j:Nat} {w w':World} {a:Option Addr} {l:List α} (h:KC c k w w') (ha:GR.At enc sz w a l) (hc:∀g,a.map (λy=>y.block)=some g->0 < l.length->c g=j) (hj:j≠k):GR.At enc sz w' a l:=λi hi=>by
 obtain⟨g,off,e,hg,hcell⟩:=ha i hi;have hb:=h.block g hg (by rw [hc g (by rw [e];rfl) Aaa];exact hj);exact⟨g,off,e,aEH hg h.size,λq hq=>(aE6 (w:=w) hb).trans (hcell q hq)⟩
theorem RMc.kc (h:RMc w A n gk gs I c) (hk:KC c k w w') (h0:k=0\/6 < k):RMc w' A n gk gs I c:=
 ⟨hk.w h.k h.ck Aaa,axL hk h.p h.cp Aaa,hk.own h.o h.co Aaa,hk.seenQ h.s h.c4 h.ci Aaa Aaa,hk.own h.r h.cr Aaa,h.ck,h.cp,h.co,h.c4,h.ci,h.cr,h.ni⟩
def vC (L:Nat) (w:World):World:={w with heap:=w.heap.mapIdx (λi o=>if i < L then .cells #[] 0 (0,0) else o)}
theorem Li (hx:x < L) (hw:x < w.heap.size):(vC L w).heap[x]?=some (.cells #[] 0 (0,0)):=by
 unfold vC;simp[hx,hw]
theorem Hr {L x:Nat} {w:World} (hx:L<=x):(vC L w).heap[x]?=w.heap[x]?:=by
 unfold vC;simp only[Array.getElem?_mapIdx];cases h:w.heap[x]? with
 |none=>rfl
 |some o=>simp[Nat.not_lt.2 hx]
theorem qD (L:Nat) (w:World):(vC L w).heap.size=w.heap.size:=by simp[vC]
theorem Ho {o:Nat} (hx:x < L) (hw:x < w.heap.size):(vC L w).cell? ⟨x,o,none⟩=none:=by
 rw [aEz _ x o _ _ _ (Li hx hw)];simp
theorem QO {n:Nat} {e:TypeId} {v:Value} {xs:List Value} (h:(vC L w).ownsRow B e sz v n xs) (hx:v.ownBlock=some x) (he:e≠0):L<=x:=by
 rcases h.2 with⟨hv,_⟩|⟨g,cap,cur,hv,_,hgg,_⟩
 .rw [hv] at hx;simp[Value.ownBlock] at hx
 .rw [hv] at hx;have e1:g=x:=Abj
  subst e1;rcases aFD g L with hl|hl
  .have hs:=ay hgg;rw [qD] at hs;rw [Li hl hs] at hgg;simp only[aFR,Obj.cells.injEq] at hgg;exact absurd hgg.2.1.symm he
  .exact hl
theorem TA {α:Type} {enc:α->List Value} {sz L g:Nat} {w:World} {a:Option Addr} {l:List α} (hs:∀x,(enc x).length=sz) (hz:0 < sz) (h:GR.W enc sz (vC L w) a g l) (hp:0 < l.length):L<=g:=by
 obtain⟨_,hg,hc⟩:=h 0 hp;rw [qD] at hg;rcases aFD g L with hl|hl
 .have h1:=(hc 0 hz).1;rw [Ho hl hg,aEB (by rw [hs];exact hz)] at h1;cases h1
 .exact hl
theorem Ee.rm (h:∀W'',Ee w w' W''->RM W'' A n):∃gk gs I c,RMc w' A n gk gs I c/\∀x,x < w.heap.size->c x=0:=by
 have hk:aC (List.range w.heap.size) w' (vC w.heap.size w'):=⟨rfl,rfl,rfl,by rw [qD];exact aEx _,λx _ hx=>Hr (by have:¬x < w.heap.size:=λh=>hx (aFA.2 h);omega)⟩;obtain⟨gk,gs,I,c,hr⟩:=h (vC w.heap.size w') ⟨List.range w.heap.size,hk,λx hx=>aFA.1 hx⟩;have b1:∀x∈fp gk n.kids,w.heap.size<=x:=λx hx=>by rw [(dz hx).1];exact TA aU Aaa hr.k (dz hx).2
 have b2:∀g,A.p.map (λy=>y.block)=some g->0 < n.pu.length->w.heap.size<=g:=λg hg hp=>by
  obtain⟨g',off,e,hg',hc⟩:=hr.p 0 hp
  rw [e] at hg
  cases hg
  rw [qD] at hg'
  rcases aFD g' w.heap.size with hl|hl
  .have h1:=hc 0 Aaa;rw [Ho hl hg',aEB (by rw [aP];omega)] at h1;cases h1
  .exact hl
 have b3:∀x,(Value.slice A.o n.out.length A.co).ownBlock=some x->w.heap.size<=x:=λx hx=>QO hr.o hx Aag
 have b6:∀x,(Value.slice A.r n.reqs.length A.cr).ownBlock=some x->w.heap.size<=x:=λx hx=>QO hr.r hx Aag
 have b4:∀x∈fp gs n.seen,w.heap.size<=x:=λx hx=>by
  rw [(dz hx).1]
  obtain⟨⟨T,hT,hl,_⟩,_⟩:=hr.s
  exact TA bf Aaa hT (by rw [hl];exact(dz hx).2)
 have b5:∀x∈uo I n.seen,w.heap.size<=x:=λx hx=>by
  obtain⟨i,hi,rfl,hp⟩:=uK hx
  obtain⟨⟨T,hT,hl,hq⟩,_⟩:=hr.s
  obtain⟨b,cc,_,ho⟩:=hq i hi
  exact TA aU Aaa ho.W hp
 have same:∀x,w.heap.size<=x->(if x < w.heap.size then 0 else c x)=c x:=λx hx=>aEG Aaa
 have hr2:RMc (vC w.heap.size w') A n gk gs I (λx=>if x < w.heap.size then 0 else c x):=
  ⟨hr.k,hr.p,hr.o,hr.s,hr.r,λx hx=>(same x (b1 x hx)).trans (hr.ck x hx),λg hg hp=>(same g (b2 g hg hp)).trans (hr.cp g hg hp),λx hx=>(same x (b3 x hx)).trans (hr.co x hx),λx hx=>(same x (b4 x hx)).trans (hr.c4 x hx),λx hx=>(same x (b5 x hx)).trans (hr.ci x hx),λx hx=>(same x (b6 x hx)).trans (hr.cr x hx),hr.ni⟩
 refine⟨gk,gs,I,λx=>if x < w.heap.size then 0 else c x,hr2.kc (k:=0) ⟨rfl,rfl,rfl,by rw [qD];exact aEx _,λx _ hx=>?_⟩ (.inl rfl),λx hx=>aER hx⟩
 exact(Hr (by
  rcases aFD x w.heap.size with hl|hl
  .exact absurd (aER hl) hx
  .exact hl)).symm
theorem RMc.node {n':Nd} (h:RMc w A n gk gs I c) (e1:n'.kids=n.kids) (e2:n'.pu=n.pu) (e3:n'.out=n.out) (e4:n'.seen=n.seen) (e5:n'.reqs=n.reqs):RMc w A n' gk gs I c:=by
 obtain⟨_,_,_,_,_,_,_,_,_⟩:=n;obtain⟨_,_,_,_,_,_,_,_,_⟩:=n';dsimp only at e1 e2 e3 e4 e5;subst e1 e2 e3 e4 e5;exact⟨h.k,h.p,h.o,h.s,h.r,h.ck,h.cp,h.co,h.c4,h.ci,h.cr,h.ni⟩
end Go.Proofs.YtfachhcijcjbpaaGreatDoor
