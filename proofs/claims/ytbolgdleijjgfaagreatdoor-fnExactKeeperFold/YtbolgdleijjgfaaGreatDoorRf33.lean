/- Parts. -/
import Derived.Test.YtbolgdleijjgfaaGreatDoorRf31
namespace Go.Proofs.YtbolgdleijjgfaaGreatDoor
open Go.Proofs.Tryz
set_option maxHeartbeats 8000000
set_option maxRecDepth 100000
open Go.RowKit
open Mth
variable {w w' W':World} {c I:Nat->Nat} {n:Nd} {A:bq} {L k sz x B gk gs:Nat} {α:Type} {enc:α->List Value} {a:Option Addr} {l:List α}
def yA (w W' W'':World):Prop:=∃F,aA F W' W''/\∀x∈F,x < w.heap.size
theorem yA.refl:yA w W' W':=⟨[],aA.refl _ _,λx hx=>Abe⟩
theorem yA.kc {W'':World} (h:yA w W' W'') (hc:∀x,x < w.heap.size->c x=k):KC c k W' W'':=by
 obtain⟨F,hk,hF⟩:=h;exact KC.keeps hk (λx hx=>hc x (hF x hx))
theorem NQ.kc0 {G:aN} (h:NQ w B n A G c) (hk:KC c 0 w w'):NQ w' B n A G c:=⟨h.toNO.kc0 hk,hk.seenQ h.sq h.c4 h.ci Aaa Aaa⟩
def jZ (w:World) (R:Nd×List Mg×Int) (e:Ending) (w':World):Prop:=∃A' a cp,e= .returned (.tuple #[gU R.1 A',.slice a R.2.1.length cp,.int .i64 R.2.2])/\(∀W'',yA w w' W''->RM W'' A' R.1)/\(∀W'',yA w w' W''->GR.At jC 7 W'' a R.2.1)/\aH w w'
theorem Q9 (n:Nd) (A:bq) (K no:Int) (k:ByteArray) (nn mK mF mT mI mL:Int) (mk:ByteArray) (mN:Int) (w:World) (hz:eG n 1048576) (hok:dV n=false) (ha:cK w A n):Calls prog 99 #[gU n A,.agg (bV K no k nn mK mF mT mI mL mk mN)] w (jZ w (n,[],3)):=by
 open aod in exact D6
theorem Ra (n:Nd) (A:bq) (K no:Int) (k:ByteArray) (nn mK mF mT mI mL:Int) (mk:ByteArray) (mN:Int) (w:World) (hz:eG n 1048576) (hk:k.size<=1048576) (hmk:mk.size<=1048576) (hok:dV n=true) (hop:bQ ⟨K,no,k,nn,⟨mK,mF,mT,mI,mL,mk,mN⟩⟩=false) (ha:cK w A n):Calls prog 99 #[gU n A,.agg (bV K no k nn mK mF mT mI mL mk mN)] w (jZ w (n,[],3)):=by
 open aoc in exact D6
theorem Jt (n:Nd) (A:bq) (G:aN) (c:Nat->Nat) (mK mF mT mI mL:Int) (mk:ByteArray) (mN:Int) (w:World) (B:Nat) (hB:B<=w.heap.size) (h9:∀x,6 < c x->c x=9) (hkl:n.kids.length<=1048600) (hmk:mk.size<=1048576) (hmo:bY ⟨mK,mF,mT,mI,mL,mk,mN⟩=true) (hol:n.out.length<=1048576) (h1:mT=n.id) (h2:dY n mF=true) (h3:mK=2) (h:NQ w B n A G c):Calls prog 131 #[gU n A,.agg (bX mK mF mT mI mL mk mN)] w (gM w B c (setOut n (n.out.filter (λs=> !iW ⟨2,mF,mT,mI,mL,mk,mN⟩ s)),[],0)):=by
 open awi in exact OV
theorem ayd {α:Type} {enc:α->List Value} {sz:Nat} {c:Nat->Nat} {k j:Nat} {w w':World} {a:Option Addr} {l:List α} (h:KC c k w w') (ha:GR.At enc sz w a l) (hc:∀g,a.map (λy=>y.block)=some g->0 < l.length->c g=j) (hj:j≠k):GR.At enc sz w' a l:=λi hi=>by
 obtain⟨g,off,e,hg,hcell⟩:=ha i hi;have hb:=h.block g hg (by rw [hc g (by rw [e];rfl) Aaa];exact hj);exact⟨g,off,e,aEZ hg h.size,λq hq=>(aFw (w:=w) hb).trans (hcell q hq)⟩
theorem RMc.kc (h:RMc w A n gk gs I c) (hk:KC c k w w') (h0:k=0\/6 < k):RMc w' A n gk gs I c:=
 ⟨hk.w h.k h.ck Aaa,ayd hk h.p h.cp Aaa,hk.own h.o h.co Aaa,hk.seenQ h.s h.c4 h.ci Aaa Aaa,hk.own h.r h.cr Aaa,h.ck,h.cp,h.co,h.c4,h.ci,h.cr,h.ni⟩
def vV (L:Nat) (w:World):World:={w with heap:=w.heap.mapIdx (λi o=>if i < L then .cells #[] 0 (0,0) else o)}
theorem Le (hx:x < L) (hw:x < w.heap.size):(vV L w).heap[x]?=some (.cells #[] 0 (0,0)):=by
 unfold vV;simp[hx,hw]
theorem Hz {L x:Nat} {w:World} (hx:L<=x):(vV L w).heap[x]?=w.heap[x]?:=by
 unfold vV;simp only[Array.getElem?_mapIdx];cases h:w.heap[x]? with
 |none=>rfl
 |some o=>simp[Nat.not_lt.2 hx]
theorem rC (L:Nat) (w:World):(vV L w).heap.size=w.heap.size:=by simp[vV]
theorem Hy {o:Nat} (hx:x < L) (hw:x < w.heap.size):(vV L w).cell? ⟨x,o,none⟩=none:=by
 rw [aE1 _ x o _ _ _ (Le hx hw)];simp
theorem QB {n:Nat} {e:TypeId} {v:Value} {xs:List Value} (h:(vV L w).ownsRow B e sz v n xs) (hx:v.ownBlock=some x) (he:e≠0):L<=x:=by
 rcases h.2 with⟨hv,_⟩|⟨g,cap,cur,hv,_,hgg,_⟩
 .rw [hv] at hx;simp[Value.ownBlock] at hx
 .rw [hv] at hx;have e1:g=x:=Abl
  subst e1;rcases aF2 g L with hl|hl
  .have hs:=ay hgg;rw [rC] at hs;rw [Le hl hs] at hgg;simp only[aGh,Obj.cells.injEq] at hgg;exact absurd hgg.2.1.symm he
  .exact hl
theorem SN {α:Type} {enc:α->List Value} {sz L g:Nat} {w:World} {a:Option Addr} {l:List α} (hs:∀x,(enc x).length=sz) (hz:0 < sz) (h:GR.W enc sz (vV L w) a g l) (hp:0 < l.length):L<=g:=by
 obtain⟨_,hg,hc⟩:=h 0 hp;rw [rC] at hg;rcases aF2 g L with hl|hl
 .have h1:=(hc 0 hz).1;rw [Hy hl hg,aEV (by rw [hs];exact hz)] at h1;cases h1
 .exact hl
theorem yA.rm (h:∀W'',yA w w' W''->RM W'' A n):∃gk gs I c,RMc w' A n gk gs I c/\∀x,x < w.heap.size->c x=0:=by
 have hk:aA (List.range w.heap.size) w' (vV w.heap.size w'):=⟨rfl,rfl,rfl,by rw [rC];exact aER _,λx _ hx=>Hz (by have:¬x < w.heap.size:=λh=>hx (aFU.2 h);omega)⟩;obtain⟨gk,gs,I,c,hr⟩:=h (vV w.heap.size w') ⟨List.range w.heap.size,hk,λx hx=>aFU.1 hx⟩;have b1:∀x∈fp gk n.kids,w.heap.size<=x:=λx hx=>by rw [(dw hx).1];exact SN aX Aaa hr.k (dw hx).2
 have b2:∀g,A.p.map (λy=>y.block)=some g->0 < n.pu.length->w.heap.size<=g:=λg hg hp=>by
  obtain⟨g',off,e,hg',hc⟩:=hr.p 0 hp
  rw [e] at hg
  cases hg
  rw [rC] at hg'
  rcases aF2 g' w.heap.size with hl|hl
  .have h1:=hc 0 Aaa;rw [Hy hl hg',aEV (by rw [aQ];omega)] at h1;cases h1
  .exact hl
 have b3:∀x,(Value.slice A.o n.out.length A.co).ownBlock=some x->w.heap.size<=x:=λx hx=>QB hr.o hx Aae
 have b6:∀x,(Value.slice A.r n.reqs.length A.cr).ownBlock=some x->w.heap.size<=x:=λx hx=>QB hr.r hx Aae
 have b4:∀x∈fp gs n.seen,w.heap.size<=x:=λx hx=>by
  rw [(dw hx).1]
  obtain⟨⟨T,hT,hl,_⟩,_⟩:=hr.s
  exact SN bE Aaa hT (by rw [hl];exact(dw hx).2)
 have b5:∀x∈nI I n.seen,w.heap.size<=x:=λx hx=>by
  obtain⟨i,hi,rfl,hp⟩:=sV hx
  obtain⟨⟨T,hT,hl,hq⟩,_⟩:=hr.s
  obtain⟨b,cc,_,ho⟩:=hq i hi
  exact SN aX Aaa ho.W hp
 have same:∀x,w.heap.size<=x->(if x < w.heap.size then 0 else c x)=c x:=λx hx=>aE2 Aaa
 have hr2:RMc (vV w.heap.size w') A n gk gs I (λx=>if x < w.heap.size then 0 else c x):=
  ⟨hr.k,hr.p,hr.o,hr.s,hr.r,λx hx=>(same x (b1 x hx)).trans (hr.ck x hx),λg hg hp=>(same g (b2 g hg hp)).trans (hr.cp g hg hp),λx hx=>(same x (b3 x hx)).trans (hr.co x hx),λx hx=>(same x (b4 x hx)).trans (hr.c4 x hx),λx hx=>(same x (b5 x hx)).trans (hr.ci x hx),λx hx=>(same x (b6 x hx)).trans (hr.cr x hx),hr.ni⟩
 refine⟨gk,gs,I,λx=>if x < w.heap.size then 0 else c x,hr2.kc (k:=0) ⟨rfl,rfl,rfl,by rw [rC];exact aER _,λx _ hx=>?_⟩ (.inl rfl),λx hx=>aFc hx⟩
 exact(Hz (by
  rcases aF2 x w.heap.size with hl|hl
  .exact absurd (aFc hl) hx
  .exact hl)).symm
theorem RMc.node {n':Nd} (h:RMc w A n gk gs I c) (e1:n'.kids=n.kids) (e2:n'.pu=n.pu) (e3:n'.out=n.out) (e4:n'.seen=n.seen) (e5:n'.reqs=n.reqs):RMc w A n' gk gs I c:=by
 obtain⟨_,_,_,_,_,_,_,_,_⟩:=n;obtain⟨_,_,_,_,_,_,_,_,_⟩:=n';dsimp only at e1 e2 e3 e4 e5;subst e1 e2 e3 e4 e5;exact⟨h.k,h.p,h.o,h.s,h.r,h.ck,h.cp,h.co,h.c4,h.ci,h.cr,h.ni⟩
end Go.Proofs.YtbolgdleijjgfaaGreatDoor
