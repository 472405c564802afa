/- Parts. -/
import Derived.Test.YtohmklmkjmlpjaaGreatDoorRc33
import Derived.Test.YtohmklmkjmlpjaaGreatDoorRc32
namespace Go.Proofs.YtohmklmkjmlpjaaGreatDoor
open Go.Proofs.Tryz
set_option maxHeartbeats 8000000
set_option maxRecDepth 100000
open Go.RowKit
open Mth
variable {w W' w' W'' X Y:World} {c I:Nat->Nat} {n:Nd} {A:bV} {B x k b L sz gk gs:Nat} {G:aR} {α:Type} {enc:α->List Value} {a:Option Addr} {l:List α}
def Ez (w W' W'':World):Prop:=∃F,aC F W' W''/\∀x∈F,x < w.heap.size
theorem Ez.refl:Ez w W' W':=⟨[],aC.refl _ _,λx hx=>Abg⟩
theorem Ez.kc (h:Ez w W' W'') (hc:∀x,x < w.heap.size->c x=k):KC c k W' W'':=by
 obtain⟨F,hk,hF⟩:=h;exact KC.keeps hk (λx hx=>hc x (hF x hx))
theorem NQ.kc0 (h:NQ w B n A G c) (hk:KC c 0 w w'):NQ w' B n A G c:=⟨h.toNO.kc0 hk,hk.seenQ h.sq h.c4 h.ci Aaa Aaa⟩
def kE (w:World) (R:Nd×List Mg×Int) (e:Ending) (w':World):Prop:=∃A' a cp,e= .returned (.tuple #[gP R.1 A',.slice a R.2.1.length cp,.int .i64 R.2.2])/\(∀W'',Ez w w' W''->RM W'' A' R.1)/\(∀W'',Ez w w' W''->GR.At mE 7 W'' a R.2.1)/\aI w w'
theorem Rj (n:Nd) (A:bV) (K no:Int) (k:ByteArray) (nn mK mF mT mI mL:Int) (mk:ByteArray) (mN:Int) (w:World) (hz:eG n 1048576) (hok:eH n=false) (ha:dD w A n):Calls prog 58 #[gP n A,.agg (cu K no k nn mK mF mT mI mL mk mN)] w (kE w (n,[],3)):=by
 open apH in exact DW
theorem Rk (n:Nd) (A:bV) (K no:Int) (k:ByteArray) (nn mK mF mT mI mL:Int) (mk:ByteArray) (mN:Int) (w:World) (hz:eG n 1048576) (hk:k.size<=1048576) (hmk:mk.size<=1048576) (hok:eH n=true) (hop:cK ⟨K,no,k,nn,⟨mK,mF,mT,mI,mL,mk,mN⟩⟩=false) (ha:dD w A n):Calls prog 58 #[gP n A,.agg (cu K no k nn mK mF mT mI mL mk mN)] w (kE w (n,[],3)):=by
 open apG in exact DW
def yt (b:Nat) (c:Nat->Nat):Nat->Nat:=λx=>if x < b then 0 else if c x=0 then 9 else if 6 < c x then 9 else c x
theorem abW (b:Nat) (c:Nat->Nat):∀x,6 < yt b c x->yt b c x=9:=λx hx=>by
 unfold yt at *;by_cases h1:x < b
 .rw [aGC h1] at hx;omega
 .rw [aGr h1] at hx ⊢;by_cases h2:c x=0
  .rw [aGC h2]
  .rw [aGr h2] at hx ⊢;by_cases h3:6 < c x
   .rw [aGC h3]
   .rw [aGr h3] at hx;omega
theorem Yg (h:b<=x) (h0:c x=0):yt b c x=9:=by
 unfold yt;rw [aGr Aaa,aGC h0]
theorem nI (hlo:∀x,x < B->c x=0) (hb:b<=B) (h:c x=k) (h1:0 < k) (h6:k<=6):yt b c x=k:=by
 unfold yt;rw [aGr (λhx=>by have:=hlo x Aaa;omega),aGr Aaa,aGr Aaa];exact h
theorem NO.flat (h:NO w B n A G c) (hb:b<=B):NO w b n A G (yt b c):=
 ⟨h.k,h.p,lK h.o hb,h.s,lK h.r hb,λx hx=>aGC hx,λx hx=>nI h.lo hb (h.ck x hx) Aaa Aaa,λx hx=>nI h.lo hb (h.cp x hx) Aaa Aaa,λx hx=>nI h.lo hb (h.co x hx) Aaa Aaa,λx hx=>nI h.lo hb (h.c4 x hx) Aaa Aaa,λx hx=>nI h.lo hb (h.ci x hx) Aaa Aaa,λx hx=>nI h.lo hb (h.cr x hx) Aaa Aaa,h.ni⟩
theorem NQ.flat (h:NQ w B n A G c) (hb:b<=B):NQ w b n A G (yt b c):=⟨h.toNO.flat hb,h.sq⟩
theorem Pj (hX:aI w X) (hb:Below 0 X Y) (hap:Apart c X Y) (hc:∀x,x < w.heap.size+3->c x=9):aI w Y:=
 ⟨hb.os.trans hX.os,hb.tape.trans hX.tape,hb.output.trans hX.output,aGm hX.size hb.size,λx hx=>(hap x (by have:=hX.size;omega) (by rw [hc x Aaa];omega)).trans (hX.block x hx)⟩
theorem Ez.out (h:Ez w W' W'') (hk:aC [w.heap.size+2] Y W') (hX:w.heap.size+2 < X.heap.size) (hc:∀x,x < w.heap.size+3->c x=9):Out c X Y W'':=by
 obtain⟨F,hk2,hF⟩:=h;refine⟨(w.heap.size+2)::F,(hk.mono (λx hx=>Aba)).trans (hk2.mono (λx hx=>Aan)),λy hy=>?_⟩;rcases aGF.1 hy with h1|h1
 .rw [h1];exact⟨hX,by rw [hc _ Aaa];omega⟩
 .have:=hF y h1;exact⟨Aaa,by rw [hc _ Aaa];omega⟩
theorem Ez.out0 (h:Ez w W' W'') (hc:∀x,x < w.heap.size+3->c x=9):Out c w W' W'':=by
 obtain⟨F,hk2,hF⟩:=h;exact⟨F,hk2,λy hy=>⟨hF y hy,by rw [hc _ (by have:=hF y hy;omega)];omega⟩⟩
theorem NC (n:Nd) (A:bV) (K no:Int) (k:ByteArray) (nn mK mF mT mI mL:Int) (mk:ByteArray) (mN:Int) (w:World) (hz:eG n 1048576) (hk:k.size<=1048576) (hmk:mk.size<=1048576) (hok:eH n=true) (hop:cK ⟨K,no,k,nn,⟨mK,mF,mT,mI,mL,mk,mN⟩⟩=true) (hK:K=1) (ha:dD w A n):Calls prog 58 #[gP n A,.agg (cu K no k nn mK mF mT mI mL mk mN)] w (kE w ((fQ n no k nn).1,[],(fQ n no k nn).2)):=by
 subst hK;open apJ in exact DW
theorem Vk (n:Nd) (A:bV) (K no:Int) (k:ByteArray) (nn mK mF mT mI mL:Int) (mk:ByteArray) (mN:Int) (w:World) (hz:eG n 1048576) (hk:k.size<=1048576) (hmk:mk.size<=1048576) (hok:eH n=true) (hop:cK ⟨K,no,k,nn,⟨mK,mF,mT,mI,mL,mk,mN⟩⟩=true) (hK:K=2) (ha:dD w A n):Calls prog 58 #[gP n A,.agg (cu K no k nn mK mF mT mI mL mk mN)] w (kE w ((bq n no).1,[],(bq n no).2)):=by
 subst hK;open apI in exact DW
theorem Ri (n:Nd) (A:bV) (K no:Int) (k:ByteArray) (nn mK mF mT mI mL:Int) (mk:ByteArray) (mN:Int) (w:World) (hz:eG n 1048576) (hk:k.size<=1048576) (hmk:mk.size<=1048576) (hok:eH n=true) (hop:cK ⟨K,no,k,nn,⟨mK,mF,mT,mI,mL,mk,mN⟩⟩=true) (hK:K=4) (hpar:n.par≠ -1) (ha:dD w A n):Calls prog 58 #[gP n A,.agg (cu K no k nn mK mF mT mI mL mk mN)] w (kE w ((fC n n.par k nn).1,(fC n n.par k nn).2.1,if (fC n n.par k nn).2.2=true then 0 else 1)):=by
 subst hK;open apK in exact DW
theorem Rm (n:Nd) (A:bV) (K no:Int) (k:ByteArray) (nn mK mF mT mI mL:Int) (mk:ByteArray) (mN:Int) (w:World) (hz:eG n 1048576) (hk:k.size<=1048576) (hmk:mk.size<=1048576) (hok:eH n=true) (hop:cK ⟨K,no,k,nn,⟨mK,mF,mT,mI,mL,mk,mN⟩⟩=true) (hK:K=3) (hpar:n.par= -1) (ha:dD w A n):Calls prog 58 #[gP n A,.agg (cu K no k nn mK mF mT mI mL mk mN)] w (kE w (n,[],1)):=by
 subst hK;open apN in exact DW
theorem Rn (n:Nd) (A:bV) (K no:Int) (k:ByteArray) (nn mK mF mT mI mL:Int) (mk:ByteArray) (mN:Int) (w:World) (hz:eG n 1048576) (hk:k.size<=1048576) (hmk:mk.size<=1048576) (hok:eH n=true) (hop:cK ⟨K,no,k,nn,⟨mK,mF,mT,mI,mL,mk,mN⟩⟩=true) (hK:K=4) (hpar:n.par= -1) (ha:dD w A n):Calls prog 58 #[gP n A,.agg (cu K no k nn mK mF mT mI mL mk mN)] w (kE w (n,[],1)):=by
 subst hK;open apM in exact DW
theorem Je (n:Nd) (A:bV) (K no:Int) (k:ByteArray) (nn mK mF mT mI mL:Int) (mk:ByteArray) (mN:Int) (w:World) (hz:eG n 1048576) (hk:k.size<=1048576) (hmk:mk.size<=1048576) (hok:eH n=true) (hop:cK ⟨K,no,k,nn,⟨mK,mF,mT,mI,mL,mk,mN⟩⟩=true) (hK:K=0) (RL:List Pu) (ok:Bool) (hu:dK n.pu k 1 1 0 nn=(RL,ok)) (hpar:n.par≠ -1) (ha:dD w A n):Calls prog 58 #[gP n A,.agg (cu K no k nn mK mF mT mI mL mk mN)] w (kE w (n,[],1)):=by
 subst hK;open apQ in exact DW
theorem Jd (n:Nd) (A:bV) (K no:Int) (k:ByteArray) (nn mK mF mT mI mL:Int) (mk:ByteArray) (mN:Int) (w:World) (hz:eG n 1048576) (hk:k.size<=1048576) (hmk:mk.size<=1048576) (hok:eH n=true) (hop:cK ⟨K,no,k,nn,⟨mK,mF,mT,mI,mL,mk,mN⟩⟩=true) (hK:K=0) (RL:List Pu) (hu:dK n.pu k 1 1 0 nn=(RL,false)) (hpar:n.par= -1) (ha:dD w A n):Calls prog 58 #[gP n A,.agg (cu K no k nn mK mF mT mI mL mk mN)] w (kE w (n,[],1)):=by
 subst hK;open apP in exact DW
theorem Gu (n:Nd) (A:bV) (K no:Int) (k:ByteArray) (nn mK mF mT mI mL:Int) (mk:ByteArray) (mN:Int) (w:World) (hz:eG n 1048576) (hk:k.size<=1048576) (hmk:mk.size<=1048576) (hok:eH n=true) (hop:cK ⟨K,no,k,nn,⟨mK,mF,mT,mI,mL,mk,mN⟩⟩=true) (hK:K=0) (RL:List Pu) (hu:dK n.pu k 1 1 0 nn=(RL,true)) (hpar:n.par= -1) (ha:dD w A n):Calls prog 58 #[gP n A,.agg (cu K no k nn mK mF mT mI mL mk mN)] w (kE w (setPu n RL,[],0)):=by
 subst hK;open apO in exact DW
theorem Ro (n:Nd) (A:bV) (K no:Int) (k:ByteArray) (nn mK mF mT mI mL:Int) (mk:ByteArray) (mN:Int) (w:World) (hz:eG n 1048576) (hk:k.size<=1048576) (hmk:mk.size<=1048576) (hok:eH n=true) (hop:cK ⟨K,no,k,nn,⟨mK,mF,mT,mI,mL,mk,mN⟩⟩=true) (hK:K=5) (ha:dD w A n):Calls prog 58 #[gP n A,.agg (cu K no k nn mK mF mT mI mL mk mN)] w (kE w (n,n.out.map (qO n),0)):=by
 subst hK;open apR in exact DW
theorem az2 {α:Type} {enc:α->List Value} {sz:Nat} {c:Nat->Nat} {k j:Nat} {w w':World} {a:Option Addr} {l:List α} (h:KC c k w w') (ha:GR.At enc sz w a l) (hc:∀g,a.map (λy=>y.block)=some g->0 < l.length->c g=j) (hj:j≠k):GR.At enc sz w' a l:=λi hi=>by
 obtain⟨g,off,e,hg,hcell⟩:=ha i hi;have hb:=h.block g hg (by rw [hc g (by rw [e];rfl) Aaa];exact hj);exact⟨g,off,e,aGq hg h.size,λq hq=>(aG0 (w:=w) hb).trans (hcell q hq)⟩
theorem RMc.kc (h:RMc w A n gk gs I c) (hk:KC c k w w') (h0:k=0\/6 < k):RMc w' A n gk gs I c:=
 ⟨hk.w h.k h.ck Aaa,az2 hk h.p h.cp Aaa,hk.own h.o h.co Aaa,hk.seenQ h.s h.c4 h.ci Aaa Aaa,hk.own h.r h.cr Aaa,h.ck,h.cp,h.co,h.c4,h.ci,h.cr,h.ni⟩
def vQ (L:Nat) (w:World):World:={w with heap:=w.heap.mapIdx (λi o=>if i < L then .cells #[] 0 (0,0) else o)}
theorem Lf (hx:x < L) (hw:x < w.heap.size):(vQ L w).heap[x]?=some (.cells #[] 0 (0,0)):=by
 unfold vQ;simp[hx,hw]
theorem Hf {L x:Nat} {w:World} (hx:L<=x):(vQ L w).heap[x]?=w.heap[x]?:=by
 unfold vQ;simp only[Array.getElem?_mapIdx];cases h:w.heap[x]? with
 |none=>rfl
 |some o=>simp[Nat.not_lt.2 hx]
theorem qX (L:Nat) (w:World):(vQ L w).heap.size=w.heap.size:=by simp[vQ]
theorem He {o:Nat} (hx:x < L) (hw:x < w.heap.size):(vQ L w).cell? ⟨x,o,none⟩=none:=by
 rw [aGu _ x o _ _ _ (Lf hx hw)];simp
theorem QJ {n:Nat} {e:TypeId} {v:Value} {xs:List Value} (h:(vQ L w).ownsRow B e sz v n xs) (hx:v.ownBlock=some x) (he:e≠0):L<=x:=by
 rcases h.2 with⟨hv,_⟩|⟨g,cap,cur,hv,_,hgg,_⟩
 .rw [hv] at hx;simp[Value.ownBlock] at hx
 .rw [hv] at hx;have e1:g=x:=Abm
  subst e1;rcases aHa g L with hl|hl
  .have hs:=aA hgg;rw [qX] at hs;rw [Lf hl hs] at hgg;simp only[aHM,Obj.cells.injEq] at hgg;exact absurd hgg.2.1.symm he
  .exact hl
theorem Tp {α:Type} {enc:α->List Value} {sz L g:Nat} {w:World} {a:Option Addr} {l:List α} (hs:∀x,(enc x).length=sz) (hz:0 < sz) (h:GR.W enc sz (vQ L w) a g l) (hp:0 < l.length):L<=g:=by
 obtain⟨_,hg,hc⟩:=h 0 hp;rw [qX] at hg;rcases aHa g L with hl|hl
 .have h1:=(hc 0 hz).1;rw [He hl hg,aGo (by rw [hs];exact hz)] at h1;cases h1
 .exact hl
theorem Ez.rm (h:∀W'',Ez w w' W''->RM W'' A n):∃gk gs I c,RMc w' A n gk gs I c/\∀x,x < w.heap.size->c x=0:=by
 have hk:aC (List.range w.heap.size) w' (vQ w.heap.size w'):=⟨rfl,rfl,rfl,by rw [qX];exact aGh _,λx _ hx=>Hf (by have:¬x < w.heap.size:=λh=>hx (aG7.2 h);omega)⟩;obtain⟨gk,gs,I,c,hr⟩:=h (vQ w.heap.size w') ⟨List.range w.heap.size,hk,λx hx=>aG7.1 hx⟩;have b1:∀x∈fp gk n.kids,w.heap.size<=x:=λx hx=>by rw [(dQ hx).1];exact Tp aO Aaa hr.k (dQ hx).2
 have b2:∀g,A.p.map (λy=>y.block)=some g->0 < n.pu.length->w.heap.size<=g:=λg hg hp=>by
  obtain⟨g',off,e,hg',hc⟩:=hr.p 0 hp
  rw [e] at hg
  cases hg
  rw [qX] at hg'
  rcases aHa g' w.heap.size with hl|hl
  .have h1:=hc 0 Aaa;rw [He hl hg',aGo (by rw [aU];omega)] at h1;cases h1
  .exact hl
 have b3:∀x,(Value.slice A.o n.out.length A.co).ownBlock=some x->w.heap.size<=x:=λx hx=>QJ hr.o hx Aae
 have b6:∀x,(Value.slice A.r n.reqs.length A.cr).ownBlock=some x->w.heap.size<=x:=λx hx=>QJ hr.r hx Aae
 have b4:∀x∈fp gs n.seen,w.heap.size<=x:=λx hx=>by
  rw [(dQ hx).1]
  obtain⟨⟨T,hT,hl,_⟩,_⟩:=hr.s
  exact Tp bY Aaa hT (by rw [hl];exact(dQ hx).2)
 have b5:∀x∈nA I n.seen,w.heap.size<=x:=λx hx=>by
  obtain⟨i,hi,rfl,hp⟩:=qM hx
  obtain⟨⟨T,hT,hl,hq⟩,_⟩:=hr.s
  obtain⟨b,cc,_,ho⟩:=hq i hi
  exact Tp aO Aaa ho.W hp
 have same:∀x,w.heap.size<=x->(if x < w.heap.size then 0 else c x)=c x:=λx hx=>aGr Aaa
 have hr2:RMc (vQ w.heap.size w') A n gk gs I (λx=>if x < w.heap.size then 0 else c x):=
  ⟨hr.k,hr.p,hr.o,hr.s,hr.r,λx hx=>(same x (b1 x hx)).trans (hr.ck x hx),λg hg hp=>(same g (b2 g hg hp)).trans (hr.cp g hg hp),λx hx=>(same x (b3 x hx)).trans (hr.co x hx),λx hx=>(same x (b4 x hx)).trans (hr.c4 x hx),λx hx=>(same x (b5 x hx)).trans (hr.ci x hx),λx hx=>(same x (b6 x hx)).trans (hr.cr x hx),hr.ni⟩
 refine⟨gk,gs,I,λx=>if x < w.heap.size then 0 else c x,hr2.kc (k:=0) ⟨rfl,rfl,rfl,by rw [qX];exact aGh _,λx _ hx=>?_⟩ (.inl rfl),λx hx=>aGC hx⟩
 exact(Hf (by
  rcases aHa x w.heap.size with hl|hl
  .exact absurd (aGC hl) hx
  .exact hl)).symm
theorem RMc.node {n':Nd} (h:RMc w A n gk gs I c) (e1:n'.kids=n.kids) (e2:n'.pu=n.pu) (e3:n'.out=n.out) (e4:n'.seen=n.seen) (e5:n'.reqs=n.reqs):RMc w A n' gk gs I c:=by
 obtain⟨_,_,_,_,_,_,_,_,_⟩:=n;obtain⟨_,_,_,_,_,_,_,_,_⟩:=n';dsimp only at e1 e2 e3 e4 e5;subst e1 e2 e3 e4 e5;exact⟨h.k,h.p,h.o,h.s,h.r,h.ck,h.cp,h.co,h.c4,h.ci,h.cr,h.ni⟩
end Go.Proofs.YtohmklmkjmlpjaaGreatDoor
