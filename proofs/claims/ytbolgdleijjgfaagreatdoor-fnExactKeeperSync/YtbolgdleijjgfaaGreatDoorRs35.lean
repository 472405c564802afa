/- Parts. -/
import Derived.Test.YtbolgdleijjgfaaGreatDoorRs30
import Derived.Test.YtbolgdleijjgfaaGreatDoorRs33
namespace Go.Proofs.YtbolgdleijjgfaaGreatDoor
open Go.Proofs.Tryz
set_option maxHeartbeats 8000000
open Go.RowKit
open Mth
variable (n:Nd) (a_k rG je iU jq:Option Addr) (dz fJ dX dA dK:Nat) (G:aK) (c:Nat->Nat) (no:Int) (w:World) (B:Nat) {W':World} {m:Mg} {i:Nat} {s0:Sn}
theorem Pq (z:Int):∀(l:List Rq) (i:Nat) (hi:i < l.length),(GR.flat aL l).set (i*4+3) (.int .i64 z)=GR.flat aL (l.set i ⟨l[i].no,l[i].k,l[i].n,z⟩):=by
 intro l;induction l with
 |nil=>intro i hi;simp at hi
 |cons x r ih=>
  intro i hi;cases i with
  |zero=>rfl
  |succ i=>
   have hi2:i < r.length:=Aas
   have h1:=ih i hi2;show(aL x++GR.flat aL r).set ((i+1)*4+3) (.int .i64 z)=aL x++GR.flat aL (r.set i ⟨r[i].no,r[i].k,r[i].n,z⟩)
   rw [<-h1,aGb _ _ (by show 4<=_;omega)];congr 2
   show(i+1)*4+3 - 4=_
   omega
theorem yN (s:jC):∀u∈aM s,u.oneCell'=true:=by
 intro u hu;simp only[aM,aE8,aFR,or_false] at hu;rcases hu with rfl|rfl|rfl|rfl<;>rfl
theorem JX (k:ByteArray) (m f s:Int) (w:World):(Instr.field 155 (.agg (iR k m f s)) 2).run prog w= .ok (.int .i64 f) w:=Aab
theorem Mx:(prog.info? 145).map (λi=>(i.zero,i.size,i.bytes))=some (some (.agg (gI 0 0 ByteArray.empty 0)),4,40):=Aab
theorem JQ {l:List Pu} {key:ByteArray} {dm df ds n:Int} (h:(dw l key dm df ds n).2=false):(dw l key dm df ds n).1=l:=by
 exact ai6
theorem Hf {n:Nd} (hi:i < n.seen.length) (e:iN n.seen m.F=i) (hs:n.seen[i]=s0) (h:sQ s0 m.L m.I=false) (hg:lY n s0 m=true):takeN n m=(dU (setPu n (dw n.pu m.k 0 1 0 m.N).1) (n.seen.set i ⟨m.F,fQ s0 m.L,lq (bX s0 m.L) m.I⟩),true):=by
 subst e hs;unfold takeN;rw [Eu hi,aEX (by rw [h];simp),aE7 hg]
theorem KT {n:Nd} (hi:i < n.seen.length) (e:iN n.seen m.F=i) (hs:n.seen[i]=s0) (h:sQ s0 m.L m.I=true):takeN n m=(dU n (n.seen.set i ⟨m.F,fQ s0 m.L,bX s0 m.L⟩),true):=by
 subst e hs;unfold takeN;rw [Eu hi,aE7 h]
theorem Rx {n:Nd} (hi:i < n.seen.length) (e:iN n.seen m.F=i) (hs:n.seen[i]=s0) (h:sQ s0 m.L m.I=false) (hg:lY n s0 m=false):takeN n m=(dU n (n.seen.set i ⟨m.F,fQ s0 m.L,bX s0 m.L⟩),false):=by
 grind [takeN,Eu]
set_option maxRecDepth 100000
def tL (l:List Rq) (no:Int):Int:=if oq l no=true then(dW l no:Int) else -1
theorem Bq (n:Nd) (A:bq) (no:Int) (w:World) (hl:n.reqs.length<=1000) (hp:n.reqs.Pairwise (λs t=>s.no < t.no)) (ha:fT w A.r n.reqs):
 Calls prog 154 #[gM n A,.int .i64 no] w (dM w (.int .i64 (tL n.reqs no))):=by
 have HA:=Hq ha;have HP:=Hq hp;have HB0:=Hq (au w (.cells (dH n A) 39));have Ik:=Hq (aEK w (.cells (dH n A) 39));obtain⟨R,hR⟩:∃R,tL n.reqs no=R:=⟨_,rfl⟩;have HR:=Hq hR;rw [hR];clear ha hp hR;go_in
 go_wp2_with fail;go_loopw [5] (λi wr=>∃k:Nat,k<=n.reqs.length/\i= .int .i64 k/\(∀j (hj:j < n.reqs.length),j < k->n.reqs[j].no≠no)/\Below (w.alloc (.cells (dH n A) 39)).heap.size (w.alloc (.cells (dH n A) 39)) wr) (λi _=>n.reqs.length - (intOf i).toNat)
 case atStart=>exact⟨0,aE1 _,rfl,λj _ h=>Aaa,aEY _ _⟩
 case round=>
  obtain⟨k,hk,rfl,hno,hbw⟩:=hrel;have mP:=Hq hno;have R8:=Hq (aj Ik hbw);have Z5:=Hq (HB0.trans (hbw.mono HB0.size));have iK:=Hq hbw;obtain⟨c0,c1,c2,c3,c4,c5,c6,c7,c8⟩:=nine R8;have hnl:=ay R8;clear hno hbw;by_cases hlt:k < n.reqs.length
  .have PE:(k:Int) < (n.reqs.length:Int):=Aaa
   obtain⟨g,off,e0,hg,q0,q1,q2,q3⟩:=fT.four (GR.At.below HA Z5) k hlt;rw [e0] at c8;clear e0;by_cases he:n.reqs[k].no=no
   .have HF:=Hq (QT HP hlt he)
    have hRk:R=k:=by
     rw [<-ah HR];unfold tL;rw [aE7 (ah HF).2,(ah HF).1]
    subst hRk;rw [he] at q0;have hq:(no == no)=true:=Aac
    go_wp2_with fail;go_ret;exact⟨rfl,Z5⟩
   .have hq:(n.reqs[k].no == no)=false:=by simpa using he
    have HE:=Hq he;clear he;generalize hx:n.reqs[k].no=x0 at *;have HX:=Hq hx;clear hx;go_wp2_with fail;go_roundw
    case rel=>exact⟨k+1,Aaa,Aaf,λj hj hjk=>by
     by_cases e:j=k
     .subst e;rw [ah HX];exact HE
     .exact mP j hj Aaa,iK⟩
    case measure=>simp[intOf];omega
  .have hke:k=n.reqs.length:=Aaa
   subst hke;have hnlt:decide ((n.reqs.length:Int) < (n.reqs.length:Int))=false:=Aac
   have hRk:R= -1:=by
    rw [<-ah HR];unfold tL;rw [aEX (by rw [Zi (λq hq=>by obtain⟨j,hj,rfl⟩:=aFY.1 hq;exact ah mP j hj hj)];simp)]
   subst hRk;go_wp2_with fail;go_ret;exact⟨rfl,Z5⟩
theorem GR.own_ati {α:Type} {enc:α->List Value} {sz:Nat} {w:World} {B:Nat} {t:TypeId} {a:Option Addr} {c:Nat} {l:List α} (hs:∀x,(enc x).length=sz) (h:w.ownsRow B t sz (.slice a l.length c) l.length (GR.flat enc l)):GR.At enc sz w a l:=by
 obtain⟨a',c',e,h'⟩:=GR.own_at hs h;simp only[aFI] at e;rw [e.1];exact h'
def Apart (c:Nat->Nat) (w w':World):Prop:=∀x,x < w.heap.size->6 < c x->w'.heap[x]?=w.heap[x]?
theorem Apart.of_below {c:Nat->Nat} {w w':World} (h:aH w w'):Apart c w w':=λx hx _=>h.block x hx
theorem Apart.keeps {c:Nat->Nat} {w X:World} {F:List Nat} (h:Apart c w X) (hs:w.heap.size<=X.heap.size) (hk:aA F X W') (hF:∀x∈F,w.heap.size<=x\/c x<=6):Apart c w W':=λx hx hc=>(hk.block x Aaa (λhm=>by have:=hF x hm;omega)).trans (h x hx hc)
theorem Apart.step {c:Nat->Nat} {w X:World} (h:Apart c w X) (hs:w.heap.size<=X.heap.size) (hb:aH X W'):Apart c w W':=λx hx hc=>(hb.block x Aaa).trans (h x hx hc)
theorem Apart.grown {c:Nat->Nat} {w X:World} {row:Option Nat} (h:Apart c w X) (hs:w.heap.size<=X.heap.size) (hg:X.grownBy W' row) (hr:∀x,row=some x->x < w.heap.size->c x<=6):Apart c w W':=λx hx hc=>(hg.block x Aaa (λhm=>by have:=hr x hm.symm hx;omega)).trans (h x hx hc)
def Out (c:Nat->Nat) (w W' W'':World):Prop:=∃F,aA F W' W''/\∀x∈F,x < w.heap.size/\6 < c x
theorem Out.refl {c:Nat->Nat} {w:World}:Out c w W' W':=⟨[],aA.refl _ _,λx hx=>Aaz⟩
theorem KC.out {c:Nat->Nat} {w W'':World} (h9:∀x,6 < c x->c x=9) (h:Out c w W' W''):KC (newC w.heap.size 9 c) 9 W' W'':=by
 obtain⟨F,hk,hF⟩:=h;exact KC.keeps hk (λx hx=>by rw [fC (hF x hx).1];exact h9 x (hF x hx).2)
def iW (w:World) (B:Nat) (c:Nat->Nat) (R:Nd×Int) (e:Ending) (w':World):Prop:=∃A',e= .returned (.tuple #[gM R.1 A',.int .i64 R.2])/\(∀W'',Out c w w' W''->RM W'' A' R.1)/\Below B w w'/\Apart c w w'
theorem NQ.nine {w:World} {B:Nat} {n:Nd} {A:bq} {G:aK} {c:Nat->Nat} (h:NQ w B n A G c) (hB:B<=w.heap.size):NQ w B n A G (newC w.heap.size 9 c):=h.recol hB (λ_ hx=>fC hx)
theorem Jz (n:Nd) (A:bq) (G:aK) (c:Nat->Nat) (no:Int) (w:World) (B:Nat) (hB:B<=w.heap.size) (h9:∀x,6 < c x->c x=9) (hs:no<=n.old) (h:NQ w B n A G c):Calls prog 129 #[gM n A,.int .i64 no] w (iW w B c (aT n no)):=by
 have hR:aT n no=(n,2):=aE7 hs;rw [hR];clear hR;unfold iW;have H9:=Hq h9;clear h9;have hbw0:=au w (.cells (dH n A) 39);open asf in exact VK
theorem Nt (n:Nd) (A:bq) (G:aK) (c:Nat->Nat) (no:Int) (w:World) (B:Nat) (hB:B<=w.heap.size) (h9:∀x,6 < c x->c x=9) (hok:gX n=true) (hs:¬no<=n.old) (hf:oq n.reqs no=false) (h:NQ w B n A G c):Calls prog 129 #[gM n A,.int .i64 no] w (iW w B c (aT n no)):=by
 have hR:aT n no=(n,1):=by unfold aT;rw [aEX hs,aE7 hf]
 have hJ:tL n.reqs no= -1:=by unfold tL;rw [aEX Abi]
 rw [hR];clear hR hf;have hp:=iT hok;have Ow:=Hq (λW1 (ha:fT W1 A.r n.reqs)=>Bq n A no W1 Aaa hp.1 ha);rw [hJ] at Ow;clear hp hok;unfold iW;have H9:=Hq h9;clear h9;have hbw0:=au w (.cells (dH n A) 39);open ase in exact VK
theorem Rt (hB:B<=w.heap.size) (h9:∀x,6 < c x->c x=9) (i:Nat) (hi:i < n.reqs.length) (hok:gX n=true) (hs:¬no<=n.old) (hJ:tL n.reqs no=i) (hR:aT n no=(n,1)) (hst:n.reqs[i].s=1) (h:NQ w B n (⟨a_k,rG,je,iU,jq,dz,fJ,dX,dA,dK⟩:bq) G c):Calls prog 129 #[gM n (⟨a_k,rG,je,iU,jq,dz,fJ,dX,dA,dK⟩:bq),.int .i64 no] w (iW w B c (aT n no)):=by
 exact axr
theorem Jy (hB:B<=w.heap.size) (h9:∀x,6 < c x->c x=9) (i:Nat) (hi:i < n.reqs.length) (hok:gX n=true) (hs:¬no<=n.old) (hJ:tL n.reqs no=i) (hR:aT n no=(n,0)) (hst:n.reqs[i].s=2) (h:NQ w B n (⟨a_k,rG,je,iU,jq,dz,fJ,dX,dA,dK⟩:bq) G c):Calls prog 129 #[gM n (⟨a_k,rG,je,iU,jq,dz,fJ,dX,dA,dK⟩:bq),.int .i64 no] w (iW w B c (aT n no)):=by
 exact axr
theorem Bp (hB:B<=w.heap.size) (h9:∀x,6 < c x->c x=9) (i:Nat) (hi:i < n.reqs.length) (hz:eF n 1048576) (hP:∃g,rG=some ⟨g,0,none⟩) (yP:n.pu.length<=fJ) (hok:gX n=true) (hs:¬no<=n.old) (hJ:tL n.reqs no=i) (RL:List Pu) (hR:aT n no=(n,1)) (hst:n.reqs[i].s=0) (hu:dw n.pu n.reqs[i].k 0 1 (-1) n.reqs[i].n=(RL,false)) (h:NQ w B n (⟨a_k,rG,je,iU,jq,dz,fJ,dX,dA,dK⟩:bq) G c):Calls prog 129 #[gM n (⟨a_k,rG,je,iU,jq,dz,fJ,dX,dA,dK⟩:bq),.int .i64 no] w (iW w B c (aT n no)):=by
 rw [hR];obtain⟨gp,hgp⟩:=hP;subst hgp;open aAM in exact Yk8
theorem CR (hB:B<=w.heap.size) (h9:∀x,6 < c x->c x=9) (i:Nat) (hi:i < n.reqs.length) (hz:eF n 1048576) (hP:∃g,rG=some ⟨g,0,none⟩) (yP:n.pu.length<=fJ) (hok:gX n=true) (hs:¬no<=n.old) (hJ:tL n.reqs no=i) (RL:List Pu) (hR:aT n no=(eO (setPu n RL) (n.reqs.set i (pX n.reqs[i])),0)) (hst:n.reqs[i].s=0) (hu:dw n.pu n.reqs[i].k 0 1 (-1) n.reqs[i].n=(RL,true)) (h:NQ w B n (⟨a_k,rG,je,iU,jq,dz,fJ,dX,dA,dK⟩:bq) G c):Calls prog 129 #[gM n (⟨a_k,rG,je,iU,jq,dz,fJ,dX,dA,dK⟩:bq),.int .i64 no] w (iW w B c (aT n no)):=by
 rw [hR];obtain⟨gp,hgp⟩:=hP;subst hgp;open aAL in exact Yk8
theorem Ru (n:Nd) (A:bq) (G:aK) (c:Nat->Nat) (no:Int) (w:World) (B:Nat) (hB:B<=w.heap.size) (h9:∀x,6 < c x->c x=9) (hz:eF n 1048576) (hP:∃g,A.p=some ⟨g,0,none⟩) (yP:n.pu.length<=A.cp) (hok:gX n=true) (h:NQ w B n A G c):Calls prog 129 #[gM n A,.int .i64 no] w (iW w B c (aT n no)):=by
 by_cases hs:no<=n.old
 .exact Jz n A G c no w B hB h9 hs h
 cases hf:oq n.reqs no with
 |false=>exact Nt n A G c no w B hB h9 hok hs hf h
 |true=>
  have hil:=((ou n.reqs no).1 hf).1;have hgd:n.reqs.getD (dW n.reqs no) default=n.reqs[dW n.reqs no]:=by rw [aFl,aEQ hil];rfl
  have hJ:tL n.reqs no=(dW n.reqs no:Nat):=by unfold tL;rw [aE7 hf]
  obtain⟨_,_,_,_,b1,b2⟩:=jY ((iT hok).2.2.1 _ (aE2 hil));obtain⟨ak,ap,ao,az,ar,ck,cp,co,cs,cr⟩:=A;by_cases s1:n.reqs[dW n.reqs no].s=1
  .exact Rt n ak ap ao az ar ck cp co cs cr G c no w B hB h9 _ hil hok hs hJ (by unfold aT;rw [aEX hs,aEX Abi,hgd,aE7 s1]) s1 h
  by_cases s2:n.reqs[dW n.reqs no].s=2
  .exact Jy n ak ap ao az ar ck cp co cs cr G c no w B hB h9 _ hil hok hs hJ (by unfold aT;rw [aEX hs,aEX Abi,hgd,aEX s1,aE7 s2]) s2 h
  obtain⟨R,hR⟩:∃R,dw n.pu n.reqs[dW n.reqs no].k 0 1 (-1) n.reqs[dW n.reqs no].n=R:=⟨_,rfl⟩;obtain⟨RL,b⟩:=R
  have hrel:aT n no=if b=true then(eO (setPu n RL) (n.reqs.set (dW n.reqs no) (pX n.reqs[dW n.reqs no])),0) else(n,1):=by
   unfold aT;rw [aEX hs,aEX Abi,hgd,aEX s1,aEX s2,hR]
  cases b with
  |false=>exact Bp n ak ap ao az ar ck cp co cs cr G c no w B hB h9 _ hil hz hP yP hok hs hJ RL (by rw [hrel];simp) Aaa hR h
  |true=>exact CR n ak ap ao az ar ck cp co cs cr G c no w B hB h9 _ hil hz hP yP hok hs hJ RL (by rw [hrel];simp) Aaa hR h
end Go.Proofs.YtbolgdleijjgfaaGreatDoor
