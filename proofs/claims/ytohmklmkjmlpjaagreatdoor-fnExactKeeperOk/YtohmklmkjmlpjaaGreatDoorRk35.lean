/- Parts. -/
import Derived.Test.YtohmklmkjmlpjaaGreatDoorRk33
import Derived.Test.YtohmklmkjmlpjaaGreatDoorRk32
namespace Go.Proofs.YtohmklmkjmlpjaaGreatDoor
open Go.Proofs.Tryz
set_option maxHeartbeats 8000000
set_option maxRecDepth 100000
open Go.RowKit
open Mth
variable {w W' w' W'' X Y:World} {c I:Nat->Nat} {n:Nd} {A:bQ} {B x k b L sz gk gs:Nat} {G:aX} {α:Type} {enc:α->List Value} {a:Option Addr} {l:List α}
def Dp (w W' W'':World):Prop:=∃F,aC F W' W''/\∀x∈F,x < w.heap.size
theorem Dp.refl:Dp w W' W':=⟨[],aC.refl _ _,λx hx=>Abr⟩
theorem Dp.kc (h:Dp w W' W'') (hc:∀x,x < w.heap.size->c x=k):KC c k W' W'':=by
 obtain⟨F,hk,hF⟩:=h;exact KC.keeps hk (λx hx=>hc x (hF x hx))
theorem NQ.kc0 (h:NQ w B n A G c) (hk:KC c 0 w w'):NQ w' B n A G c:=⟨h.toNO.kc0 hk,hk.seenQ h.sq h.c4 h.ci Aaa Aaa⟩
def jL (w:World) (R:Nd×List Mg×Int) (e:Ending) (w':World):Prop:=∃A' a cp,e= .returned (.tuple #[gB R.1 A',.slice a R.2.1.length cp,.int .i64 R.2.2])/\(∀W'',Dp w w' W''->RM W'' A' R.1)/\(∀W'',Dp w w' W''->GR.At lK 7 W'' a R.2.1)/\aI w w'
theorem Qu (n:Nd) (A:bQ) (K no:Int) (k:ByteArray) (nn mK mF mT mI mL:Int) (mk:ByteArray) (mN:Int) (w:World) (hz:eU n 1048576) (hok:dW n=false) (ha:dw w A n):Calls prog 58 #[gB n A,.agg (bZ K no k nn mK mF mT mI mL mk mN)] w (jL w (n,[],3)):=by
 open an2 in exact CW
theorem Qv (n:Nd) (A:bQ) (K no:Int) (k:ByteArray) (nn mK mF mT mI mL:Int) (mk:ByteArray) (mN:Int) (w:World) (hz:eU n 1048576) (hk:k.size<=1048576) (hmk:mk.size<=1048576) (hok:dW n=true) (hop:cu ⟨K,no,k,nn,⟨mK,mF,mT,mI,mL,mk,mN⟩⟩=false) (ha:dw w A n):Calls prog 58 #[gB n A,.agg (bZ K no k nn mK mF mT mI mL mk mN)] w (jL w (n,[],3)):=by
 open an1 in exact CW
def xq (b:Nat) (c:Nat->Nat):Nat->Nat:=λx=>if x < b then 0 else if c x=0 then 9 else if 6 < c x then 9 else c x
theorem aa1 (b:Nat) (c:Nat->Nat):∀x,6 < xq b c x->xq b c x=9:=λx hx=>by
 unfold xq at *;by_cases h1:x < b
 .rw [if_pos h1] at hx;omega
 .rw [if_neg h1] at hx ⊢;by_cases h2:c x=0
  .rw [if_pos h2]
  .rw [if_neg h2] at hx ⊢;by_cases h3:6 < c x
   .rw [if_pos h3]
   .rw [if_neg h3] at hx;omega
theorem WJ (h:b<=x) (h0:c x=0):xq b c x=9:=by
 unfold xq;rw [if_neg Aaa,if_pos h0]
theorem mE (hlo:∀x,x < B->c x=0) (hb:b<=B) (h:c x=k) (h1:0 < k) (h6:k<=6):xq b c x=k:=by
 unfold xq;rw [if_neg (λhx=>by have:=hlo x Aaa;omega),if_neg Aaa,if_neg Aaa];exact h
theorem NO.flat (h:NO w B n A G c) (hb:b<=B):NO w b n A G (xq b c):=
 ⟨h.k,h.p,kK h.o hb,h.s,kK h.r hb,λx hx=>if_pos hx,λx hx=>mE h.lo hb (h.ck x hx) Aaa Aaa,λx hx=>mE h.lo hb (h.cp x hx) Aaa Aaa,λx hx=>mE h.lo hb (h.co x hx) Aaa Aaa,λx hx=>mE h.lo hb (h.c4 x hx) Aaa Aaa,λx hx=>mE h.lo hb (h.ci x hx) Aaa Aaa,λx hx=>mE h.lo hb (h.cr x hx) Aaa Aaa,h.ni⟩
theorem NQ.flat (h:NQ w B n A G c) (hb:b<=B):NQ w b n A G (xq b c):=⟨h.toNO.flat hb,h.sq⟩
theorem Ou (hX:aI w X) (hb:Below 0 X Y) (hap:Apart c X Y) (hc:∀x,x < w.heap.size+3->c x=9):aI w Y:=
 ⟨hb.os.trans hX.os,hb.tape.trans hX.tape,hb.output.trans hX.output,Nat.le_trans hX.size hb.size,λx hx=>(hap x (by have:=hX.size;omega) (by rw [hc x Aaa];omega)).trans (hX.block x hx)⟩
theorem Dp.out (h:Dp w W' W'') (hk:aC [w.heap.size+2] Y W') (hX:w.heap.size+2 < X.heap.size) (hc:∀x,x < w.heap.size+3->c x=9):Out c X Y W'':=by
 obtain⟨F,hk2,hF⟩:=h;refine⟨(w.heap.size+2)::F,(hk.mono (λx hx=>Aaz)).trans (hk2.mono (λx hx=>Aaj)),λy hy=>?_⟩;rcases List.mem_cons.1 hy with h1|h1
 .rw [h1];exact⟨hX,by rw [hc _ Aaa];omega⟩
 .have:=hF y h1;exact⟨Aaa,by rw [hc _ Aaa];omega⟩
theorem Dp.out0 (h:Dp w W' W'') (hc:∀x,x < w.heap.size+3->c x=9):Out c w W' W'':=by
 obtain⟨F,hk2,hF⟩:=h;exact⟨F,hk2,λy hy=>⟨hF y hy,by rw [hc _ (by have:=hF y hy;omega)];omega⟩⟩
theorem Mq (n:Nd) (A:bQ) (K no:Int) (k:ByteArray) (nn mK mF mT mI mL:Int) (mk:ByteArray) (mN:Int) (w:World) (hz:eU n 1048576) (hk:k.size<=1048576) (hmk:mk.size<=1048576) (hok:dW n=true) (hop:cu ⟨K,no,k,nn,⟨mK,mF,mT,mI,mL,mk,mN⟩⟩=true) (hK:K=1) (ha:dw w A n):Calls prog 58 #[gB n A,.agg (bZ K no k nn mK mF mT mI mL mk mN)] w (jL w ((fJ n no k nn).1,[],(fJ n no k nn).2)):=by
 subst hK;open an4 in exact CW
theorem Uc (n:Nd) (A:bQ) (K no:Int) (k:ByteArray) (nn mK mF mT mI mL:Int) (mk:ByteArray) (mN:Int) (w:World) (hz:eU n 1048576) (hk:k.size<=1048576) (hmk:mk.size<=1048576) (hok:dW n=true) (hop:cu ⟨K,no,k,nn,⟨mK,mF,mT,mI,mL,mk,mN⟩⟩=true) (hK:K=2) (ha:dw w A n):Calls prog 58 #[gB n A,.agg (bZ K no k nn mK mF mT mI mL mk mN)] w (jL w ((bf n no).1,[],(bf n no).2)):=by
 subst hK;open an3 in exact CW
theorem Qt (n:Nd) (A:bQ) (K no:Int) (k:ByteArray) (nn mK mF mT mI mL:Int) (mk:ByteArray) (mN:Int) (w:World) (hz:eU n 1048576) (hk:k.size<=1048576) (hmk:mk.size<=1048576) (hok:dW n=true) (hop:cu ⟨K,no,k,nn,⟨mK,mF,mT,mI,mL,mk,mN⟩⟩=true) (hK:K=4) (hpar:n.par≠ -1) (ha:dw w A n):Calls prog 58 #[gB n A,.agg (bZ K no k nn mK mF mT mI mL mk mN)] w (jL w ((eZ n n.par k nn).1,(eZ n n.par k nn).2.1,if (eZ n n.par k nn).2.2=true then 0 else 1)):=by
 subst hK;open an5 in exact CW
theorem Qx (n:Nd) (A:bQ) (K no:Int) (k:ByteArray) (nn mK mF mT mI mL:Int) (mk:ByteArray) (mN:Int) (w:World) (hz:eU n 1048576) (hk:k.size<=1048576) (hmk:mk.size<=1048576) (hok:dW n=true) (hop:cu ⟨K,no,k,nn,⟨mK,mF,mT,mI,mL,mk,mN⟩⟩=true) (hK:K=3) (hpar:n.par= -1) (ha:dw w A n):Calls prog 58 #[gB n A,.agg (bZ K no k nn mK mF mT mI mL mk mN)] w (jL w (n,[],1)):=by
 subst hK;open an8 in exact CW
theorem Qy (n:Nd) (A:bQ) (K no:Int) (k:ByteArray) (nn mK mF mT mI mL:Int) (mk:ByteArray) (mN:Int) (w:World) (hz:eU n 1048576) (hk:k.size<=1048576) (hmk:mk.size<=1048576) (hok:dW n=true) (hop:cu ⟨K,no,k,nn,⟨mK,mF,mT,mI,mL,mk,mN⟩⟩=true) (hK:K=4) (hpar:n.par= -1) (ha:dw w A n):Calls prog 58 #[gB n A,.agg (bZ K no k nn mK mF mT mI mL mk mN)] w (jL w (n,[],1)):=by
 subst hK;open an7 in exact CW
theorem H6 (n:Nd) (A:bQ) (K no:Int) (k:ByteArray) (nn mK mF mT mI mL:Int) (mk:ByteArray) (mN:Int) (w:World) (hz:eU n 1048576) (hk:k.size<=1048576) (hmk:mk.size<=1048576) (hok:dW n=true) (hop:cu ⟨K,no,k,nn,⟨mK,mF,mT,mI,mL,mk,mN⟩⟩=true) (hK:K=0) (RL:List Pu) (ok:Bool) (hu:dJ n.pu k 1 1 0 nn=(RL,ok)) (hpar:n.par≠ -1) (ha:dw w A n):Calls prog 58 #[gB n A,.agg (bZ K no k nn mK mF mT mI mL mk mN)] w (jL w (n,[],1)):=by
 subst hK;open aob in exact CW
theorem Hz (n:Nd) (A:bQ) (K no:Int) (k:ByteArray) (nn mK mF mT mI mL:Int) (mk:ByteArray) (mN:Int) (w:World) (hz:eU n 1048576) (hk:k.size<=1048576) (hmk:mk.size<=1048576) (hok:dW n=true) (hop:cu ⟨K,no,k,nn,⟨mK,mF,mT,mI,mL,mk,mN⟩⟩=true) (hK:K=0) (RL:List Pu) (hu:dJ n.pu k 1 1 0 nn=(RL,false)) (hpar:n.par= -1) (ha:dw w A n):Calls prog 58 #[gB n A,.agg (bZ K no k nn mK mF mT mI mL mk mN)] w (jL w (n,[],1)):=by
 subst hK;open aoa in exact CW
theorem FC (n:Nd) (A:bQ) (K no:Int) (k:ByteArray) (nn mK mF mT mI mL:Int) (mk:ByteArray) (mN:Int) (w:World) (hz:eU n 1048576) (hk:k.size<=1048576) (hmk:mk.size<=1048576) (hok:dW n=true) (hop:cu ⟨K,no,k,nn,⟨mK,mF,mT,mI,mL,mk,mN⟩⟩=true) (hK:K=0) (RL:List Pu) (hu:dJ n.pu k 1 1 0 nn=(RL,true)) (hpar:n.par= -1) (ha:dw w A n):Calls prog 58 #[gB n A,.agg (bZ K no k nn mK mF mT mI mL mk mN)] w (jL w (setPu n RL,[],0)):=by
 subst hK;open an9 in exact CW
theorem Qz (n:Nd) (A:bQ) (K no:Int) (k:ByteArray) (nn mK mF mT mI mL:Int) (mk:ByteArray) (mN:Int) (w:World) (hz:eU n 1048576) (hk:k.size<=1048576) (hmk:mk.size<=1048576) (hok:dW n=true) (hop:cu ⟨K,no,k,nn,⟨mK,mF,mT,mI,mL,mk,mN⟩⟩=true) (hK:K=5) (ha:dw w A n):Calls prog 58 #[gB n A,.agg (bZ K no k nn mK mF mT mI mL mk mN)] w (jL w (n,n.out.map (pX n),0)):=by
 subst hK;open aoc in exact CW
theorem axL {α:Type} {enc:α->List Value} {sz:Nat} {c:Nat->Nat} {k j:Nat} {w w':World} {a:Option Addr} {l:List α} (h:KC c k w w') (ha:GR.At enc sz w a l) (hc:∀g,a.map (λy=>y.block)=some g->0 < l.length->c g=j) (hj:j≠k):GR.At enc sz w' a l:=λi hi=>by
 obtain⟨g,off,e,hg,hcell⟩:=ha i hi;have hb:=h.block g hg (by rw [hc g (by rw [e];rfl) Aaa];exact hj);exact⟨g,off,e,Nat.lt_of_lt_of_le hg h.size,λq hq=>(World.cell?_of_block (w:=w) hb).trans (hcell q hq)⟩
theorem ZH.kc (h:ZH w A n gk gs I c) (hk:KC c k w w') (h0:k=0\/6 < k):ZH w' A n gk gs I c:=
 ⟨hk.w h.k h.ck Aaa,axL hk h.p h.cp Aaa,hk.own h.o h.co Aaa,hk.seenQ h.s h.c4 h.ci Aaa Aaa,hk.own h.r h.cr Aaa,h.ck,h.cp,h.co,h.c4,h.ci,h.cr,h.ni⟩
def uM (L:Nat) (w:World):World:={w with heap:=w.heap.mapIdx (λi o=>if i < L then .cells #[] 0 (0,0) else o)}
theorem J4 (hx:x < L) (hw:x < w.heap.size):(uM L w).heap[x]?=some (.cells #[] 0 (0,0)):=by
 unfold uM;simp[hx,hw]
theorem FZ {L x:Nat} {w:World} (hx:L<=x):(uM L w).heap[x]?=w.heap[x]?:=by
 unfold uM;simp only[Array.getElem?_mapIdx];cases h:w.heap[x]? with
 |none=>rfl
 |some o=>simp[Nat.not_lt.2 hx]
theorem ql (L:Nat) (w:World):(uM L w).heap.size=w.heap.size:=by simp[uM]
theorem FY {o:Nat} (hx:x < L) (hw:x < w.heap.size):(uM L w).cell? ⟨x,o,none⟩=none:=by
 rw [cell_of_row _ x o _ _ _ (J4 hx hw)];simp
theorem P6 {n:Nat} {e:TypeId} {v:Value} {xs:List Value} (h:(uM L w).ownsRow B e sz v n xs) (hx:v.ownBlock=some x) (he:e≠0):L<=x:=by
 rcases h.2 with⟨hv,_⟩|⟨g,cap,cur,hv,_,hgg,_⟩
 .rw [hv] at hx;simp[Value.ownBlock] at hx
 .rw [hv] at hx;have e1:g=x:=Abm
  subst e1;rcases Nat.lt_or_ge g L with hl|hl
  .have hs:=aA hgg;rw [ql] at hs;rw [J4 hl hs] at hgg;simp only[Option.some.injEq,Obj.cells.injEq] at hgg;exact absurd hgg.2.1.symm he
  .exact hl
theorem RJ {α:Type} {enc:α->List Value} {sz L g:Nat} {w:World} {a:Option Addr} {l:List α} (hs:∀x,(enc x).length=sz) (hz:0 < sz) (h:GR.W enc sz (uM L w) a g l) (hp:0 < l.length):L<=g:=by
 obtain⟨_,hg,hc⟩:=h 0 hp;rw [ql] at hg;rcases Nat.lt_or_ge g L with hl|hl
 .have h1:=(hc 0 hz).1;rw [FY hl hg,List.getElem?_eq_getElem (by rw [hs];exact hz)] at h1;cases h1
 .exact hl
theorem Dp.rm (h:∀W'',Dp w w' W''->RM W'' A n):∃gk gs I c,ZH w' A n gk gs I c/\∀x,x < w.heap.size->c x=0:=by
 have hk:aC (List.range w.heap.size) w' (uM w.heap.size w'):=⟨rfl,rfl,rfl,by rw [ql];exact Nat.le_refl _,λx _ hx=>FZ (by have:¬x < w.heap.size:=λh=>hx (List.mem_range.2 h);omega)⟩;obtain⟨gk,gs,I,c,hr⟩:=h (uM w.heap.size w') ⟨List.range w.heap.size,hk,λx hx=>List.mem_range.1 hx⟩;have b1:∀x∈fp gk n.kids,w.heap.size<=x:=λx hx=>by rw [(dY hx).1];exact RJ aQ Aaa hr.k (dY hx).2
 have b2:∀g,A.p.map (λy=>y.block)=some g->0 < n.pu.length->w.heap.size<=g:=λg hg hp=>by
  obtain⟨g',off,e,hg',hc⟩:=hr.p 0 hp
  rw [e] at hg
  cases hg
  rw [ql] at hg'
  rcases Nat.lt_or_ge g' w.heap.size with hl|hl
  .have h1:=hc 0 Aaa;rw [FY hl hg',List.getElem?_eq_getElem (by rw [aW];omega)] at h1;cases h1
  .exact hl
 have b3:∀x,(Value.slice A.o n.out.length A.co).ownBlock=some x->w.heap.size<=x:=λx hx=>P6 hr.o hx Aae
 have b6:∀x,(Value.slice A.r n.reqs.length A.cr).ownBlock=some x->w.heap.size<=x:=λx hx=>P6 hr.r hx Aae
 have b4:∀x∈fp gs n.seen,w.heap.size<=x:=λx hx=>by
  rw [(dY hx).1]
  obtain⟨⟨T,hT,hl,_⟩,_⟩:=hr.s
  exact RJ dK Aaa hT (by rw [hl];exact(dY hx).2)
 have b5:∀x∈wO I n.seen,w.heap.size<=x:=λx hx=>by
  obtain⟨i,hi,rfl,hp⟩:=uh hx
  obtain⟨⟨T,hT,hl,hq⟩,_⟩:=hr.s
  obtain⟨b,cc,_,ho⟩:=hq i hi
  exact RJ aQ Aaa ho.W hp
 have same:∀x,w.heap.size<=x->(if x < w.heap.size then 0 else c x)=c x:=λx hx=>if_neg Aaa
 have hr2:ZH (uM w.heap.size w') A n gk gs I (λx=>if x < w.heap.size then 0 else c x):=
  ⟨hr.k,hr.p,hr.o,hr.s,hr.r,λx hx=>(same x (b1 x hx)).trans (hr.ck x hx),λg hg hp=>(same g (b2 g hg hp)).trans (hr.cp g hg hp),λx hx=>(same x (b3 x hx)).trans (hr.co x hx),λx hx=>(same x (b4 x hx)).trans (hr.c4 x hx),λx hx=>(same x (b5 x hx)).trans (hr.ci x hx),λx hx=>(same x (b6 x hx)).trans (hr.cr x hx),hr.ni⟩
 refine⟨gk,gs,I,λx=>if x < w.heap.size then 0 else c x,hr2.kc (k:=0) ⟨rfl,rfl,rfl,by rw [ql];exact Nat.le_refl _,λx _ hx=>?_⟩ (.inl rfl),λx hx=>if_pos hx⟩
 exact(FZ (by
  rcases Nat.lt_or_ge x w.heap.size with hl|hl
  .exact absurd (if_pos hl) hx
  .exact hl)).symm
theorem ZH.node {n':Nd} (h:ZH w A n gk gs I c) (e1:n'.kids=n.kids) (e2:n'.pu=n.pu) (e3:n'.out=n.out) (e4:n'.seen=n.seen) (e5:n'.reqs=n.reqs):ZH w A n' gk gs I c:=by
 obtain⟨_,_,_,_,_,_,_,_,_⟩:=n;obtain⟨_,_,_,_,_,_,_,_,_⟩:=n';dsimp only at e1 e2 e3 e4 e5;subst e1 e2 e3 e4 e5;exact⟨h.k,h.p,h.o,h.s,h.r,h.ck,h.cp,h.co,h.c4,h.ci,h.cr,h.ni⟩
end Go.Proofs.YtohmklmkjmlpjaaGreatDoor
