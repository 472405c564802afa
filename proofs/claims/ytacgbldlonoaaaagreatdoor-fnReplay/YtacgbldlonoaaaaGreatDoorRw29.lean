/- Parts. -/
import Derived.Test.YtacgbldlonoaaaaGreatDoorRw28
namespace Go.Proofs.YtacgbldlonoaaaaGreatDoor
open Go.Proofs.Tryz
set_option maxHeartbeats 8000000
set_option maxRecDepth 100000
open Go.RowKit
open Mth
variable (n:Nd) (a_k jE eD eO gN:Option Addr) (aL bE aP aM aV:Nat) (G:bJ) (c:Nat->Nat) {w W' X:World} {B:Nat}
def tJ (l:List Rq) (no:Int):Int:=if oq l no=true then(dZ l no:Int) else -1
theorem AQ (n:Nd) (A:bC) (no:Int) (w:World) (hl:n.reqs.length<=1000) (hp:n.reqs.Pairwise (λs t=>s.no < t.no)) (ha:jf w A.r n.reqs):
 Calls prog 116 #[fT n A,.int .i64 no] w (fF w (.int .i64 (tJ n.reqs no))):=by
 have HA:=Hq ha;have HP:=Hq hp;have HB0:=Hq (au w (.cells (dD n A) 30));have Jv:=Hq (heap_alloc_new w (.cells (dD n A) 30));obtain⟨R,hR⟩:∃R,tJ n.reqs no=R:=⟨_,rfl⟩;have HR:=Hq hR;rw [hR];clear ha hp hR;go_in
 go_wp2_with fail;go_loopw [5] (λi wr=>∃k:Nat,k<=n.reqs.length/\i= .int .i64 k/\(∀j (hj:j < n.reqs.length),j < k->n.reqs[j].no≠no)/\Below (w.alloc (.cells (dD n A) 30)).heap.size (w.alloc (.cells (dD n A) 30)) wr) (λi _=>n.reqs.length - (intOf i).toNat)
 case atStart=>exact⟨0,Nat.zero_le _,rfl,λj _ h=>Aaa,Below.refl _ _⟩
 case round=>
  obtain⟨k,hk,rfl,hno,hbw⟩:=hrel;have kS:=Hq hno;have Rs:=Hq (ay Jv hbw);have Zf:=Hq (HB0.trans (hbw.mono HB0.size));have iA:=Hq hbw;obtain⟨c0,c1,c2,c3,c4,c5,c6,c7,c8⟩:=nine Rs;have hnl:=aA Rs;clear hno hbw;by_cases hlt:k < n.reqs.length
  .have Pg:(k:Int) < (n.reqs.length:Int):=Aaa
   obtain⟨g,off,e0,hg,q0,q1,q2,q3⟩:=jf.four (GR.At.below HA Zf) k hlt;rw [e0] at c8;clear e0;by_cases he:n.reqs[k].no=no
   .have HF:=Hq (Qy HP hlt he)
    have hRk:R=k:=by
     rw [<-ah HR];unfold tJ;rw [if_pos (ah HF).2,(ah HF).1]
    subst hRk;rw [he] at q0;have hq:(no == no)=true:=Aac
    go_wp2_with fail;go_ret;exact⟨rfl,Zf⟩
   .have hq:(n.reqs[k].no == no)=false:=by simpa using he
    have HE:=Hq he;clear he;generalize hx:n.reqs[k].no=x0 at *;have HX:=Hq hx;clear hx;go_wp2_with fail;go_roundw
    case rel=>exact⟨k+1,Aaa,Aai,λj hj hjk=>by
     by_cases e:j=k
     .subst e;rw [ah HX];exact HE
     .exact kS j hj Aaa,iA⟩
    case measure=>simp[intOf];omega
  .have hke:k=n.reqs.length:=Aaa
   subst hke;have hnlt:decide ((n.reqs.length:Int) < (n.reqs.length:Int))=false:=Aac
   have hRk:R= -1:=by
    rw [<-ah HR];unfold tJ;rw [if_neg (by rw [Yg (λq hq=>by obtain⟨j,hj,rfl⟩:=List.mem_iff_getElem.1 hq;exact ah kS j hj hj)];simp)]
   subst hRk;go_wp2_with fail;go_ret;exact⟨rfl,Zf⟩
theorem GR.own_ati {α:Type} {enc:α->List Value} {sz:Nat} {t:TypeId} {a:Option Addr} {c:Nat} {l:List α} (hs:∀x,(enc x).length=sz) (h:w.ownsRow B t sz (.slice a l.length c) l.length (GR.flat enc l)):GR.At enc sz w a l:=by
 obtain⟨a',c',e,h'⟩:=GR.own_at hs h;simp only[Value.slice.injEq] at e;rw [e.1];exact h'
def Apart (c:Nat->Nat) (w w':World):Prop:=∀x,x < w.heap.size->6 < c x->w'.heap[x]?=w.heap[x]?
theorem Apart.of_below {c:Nat->Nat} {w':World} (h:aY w w'):Apart c w w':=λx hx _=>h.block x hx
theorem Apart.keeps {c:Nat->Nat} {F:List Nat} (h:Apart c w X) (hs:w.heap.size<=X.heap.size) (hk:aC F X W') (hF:∀x∈F,w.heap.size<=x\/c x<=6):Apart c w W':=λx hx hc=>(hk.block x Aaa (λhm=>by have:=hF x hm;omega)).trans (h x hx hc)
theorem Apart.step {c:Nat->Nat} (h:Apart c w X) (hs:w.heap.size<=X.heap.size) (hb:aY X W'):Apart c w W':=λx hx hc=>(hb.block x Aaa).trans (h x hx hc)
theorem Apart.grown {c:Nat->Nat} {row:Option Nat} (h:Apart c w X) (hs:w.heap.size<=X.heap.size) (hg:X.grownBy W' row) (hr:∀x,row=some x->x < w.heap.size->c x<=6):Apart c w W':=λx hx hc=>(hg.block x Aaa (λhm=>by have:=hr x hm.symm hx;omega)).trans (h x hx hc)
def Out (c:Nat->Nat) (w W' W'':World):Prop:=∃F,aC F W' W''/\∀x∈F,x < w.heap.size/\6 < c x
theorem Out.refl {c:Nat->Nat}:Out c w W' W':=⟨[],aC.refl _ _,λx hx=>by simp at hx⟩
theorem KC.out {c:Nat->Nat} {W'':World} (h9:∀x,6 < c x->c x=9) (h:Out c w W' W''):KC (newC w.heap.size 9 c) 9 W' W'':=by
 obtain⟨F,hk,hF⟩:=h;exact KC.keeps hk (λx hx=>by rw [eT (hF x hx).1];exact h9 x (hF x hx).2)
def iI (w:World) (B:Nat) (c:Nat->Nat) (R:Nd×Int) (e:Ending) (w':World):Prop:=∃A',e= .returned (.tuple #[fT R.1 A',.int .i64 R.2])/\(∀W'',Out c w w' W''->RM W'' A' R.1)/\Below B w w'/\Apart c w w'
theorem NQ.nine {n:Nd} {A:bC} {G:bJ} {c:Nat->Nat} (h:NQ w B n A G c) (hB:B<=w.heap.size):NQ w B n A G (newC w.heap.size 9 c):=h.recol hB (λ_ hx=>eT hx)
theorem Ji (n:Nd) (A:bC) (G:bJ) (c:Nat->Nat) (no:Int) (w:World) (B:Nat) (hB:B<=w.heap.size) (h9:∀x,6 < c x->c x=9) (hs:no<=n.old) (h:NQ w B n A G c):Calls prog 40 #[fT n A,.int .i64 no] w (iI w B c (bn n no)):=by
 have hR:bn n no=(n,2):=if_pos hs;rw [hR];clear hR;unfold iI;have H9:=Hq h9;clear h9;have hbw0:=au w (.cells (dD n A) 30);open arZ in exact Vf
theorem Ng (n:Nd) (A:bC) (G:bJ) (c:Nat->Nat) (no:Int) (w:World) (B:Nat) (hB:B<=w.heap.size) (h9:∀x,6 < c x->c x=9) (hok:iy n=true) (hs:¬no<=n.old) (hf:oq n.reqs no=false) (h:NQ w B n A G c):Calls prog 40 #[fT n A,.int .i64 no] w (iI w B c (bn n no)):=by
 have hR:bn n no=(n,1):=by unfold bn;rw [if_neg hs,if_pos hf]
 have hJ:tJ n.reqs no= -1:=by unfold tJ;rw [if_neg Abr]
 rw [hR];clear hR hf;have hp:=jl hok;have Oe:=Hq (λW1 (ha:jf W1 A.r n.reqs)=>AQ n A no W1 Aaa hp.1 ha);rw [hJ] at Oe;clear hp hok;unfold iI;have H9:=Hq h9;clear h9;have hbw0:=au w (.cells (dD n A) 30);open arY in exact Vf
theorem QZ (no:Int) (w:World) (B:Nat) (hB:B<=w.heap.size) (h9:∀x,6 < c x->c x=9) (i:Nat) (hi:i < n.reqs.length) (hok:iy n=true) (hs:¬no<=n.old) (hJ:tJ n.reqs no=i) (hR:bn n no=(n,1)) (hst:n.reqs[i].s=1) (h:NQ w B n (⟨a_k,jE,eD,eO,gN,aL,bE,aP,aM,aV⟩:bC) G c):Calls prog 40 #[fT n (⟨a_k,jE,eD,eO,gN,aL,bE,aP,aM,aV⟩:bC),.int .i64 no] w (iI w B c (bn n no)):=by
 rw [hR];open azR in exact av2
theorem Jh (no:Int) (w:World) (B:Nat) (hB:B<=w.heap.size) (h9:∀x,6 < c x->c x=9) (i:Nat) (hi:i < n.reqs.length) (hok:iy n=true) (hs:¬no<=n.old) (hJ:tJ n.reqs no=i) (hR:bn n no=(n,0)) (hst:n.reqs[i].s=2) (h:NQ w B n (⟨a_k,jE,eD,eO,gN,aL,bE,aP,aM,aV⟩:bC) G c):Calls prog 40 #[fT n (⟨a_k,jE,eD,eO,gN,aL,bE,aP,aM,aV⟩:bC),.int .i64 no] w (iI w B c (bn n no)):=by
 rw [hR];open azQ in exact av2
theorem AP (no:Int) (w:World) (B:Nat) (hB:B<=w.heap.size) (h9:∀x,6 < c x->c x=9) (i:Nat) (hi:i < n.reqs.length) (hz:eY n 1048576) (hP:∃g,jE=some ⟨g,0,none⟩) (vC:n.pu.length<=bE) (hok:iy n=true) (hs:¬no<=n.old) (hJ:tJ n.reqs no=i) (RL:List Pu) (hR:bn n no=(n,1)) (hst:n.reqs[i].s=0) (hu:dJ n.pu n.reqs[i].k 0 1 (-1) n.reqs[i].n=(RL,false)) (h:NQ w B n (⟨a_k,jE,eD,eO,gN,aL,bE,aP,aM,aV⟩:bC) G c):Calls prog 40 #[fT n (⟨a_k,jE,eD,eO,gN,aL,bE,aP,aM,aV⟩:bC),.int .i64 no] w (iI w B c (bn n no)):=by
 rw [hR];obtain⟨gp,hgp⟩:=hP;subst hgp;have hiI:(i:Int) < (n.reqs.length:Int):=Aaa
 have HST:=Hq hst;open aAh in exact av4
theorem CF (no:Int) (w:World) (B:Nat) (hB:B<=w.heap.size) (h9:∀x,6 < c x->c x=9) (i:Nat) (hi:i < n.reqs.length) (hz:eY n 1048576) (hP:∃g,jE=some ⟨g,0,none⟩) (vC:n.pu.length<=bE) (hok:iy n=true) (hs:¬no<=n.old) (hJ:tJ n.reqs no=i) (RL:List Pu) (hR:bn n no=(eH (setPu n RL) (n.reqs.set i (qj n.reqs[i])),0)) (hst:n.reqs[i].s=0) (hu:dJ n.pu n.reqs[i].k 0 1 (-1) n.reqs[i].n=(RL,true)) (h:NQ w B n (⟨a_k,jE,eD,eO,gN,aL,bE,aP,aM,aV⟩:bC) G c):Calls prog 40 #[fT n (⟨a_k,jE,eD,eO,gN,aL,bE,aP,aM,aV⟩:bC),.int .i64 no] w (iI w B c (bn n no)):=by
 rw [hR];obtain⟨gp,hgp⟩:=hP;subst hgp;have hiI:(i:Int) < (n.reqs.length:Int):=Aaa
 have HST:=Hq hst;open aAg in exact av4
theorem Q0 (n:Nd) (A:bC) (G:bJ) (c:Nat->Nat) (no:Int) (w:World) (B:Nat) (hB:B<=w.heap.size) (h9:∀x,6 < c x->c x=9) (hz:eY n 1048576) (hP:∃g,A.p=some ⟨g,0,none⟩) (vC:n.pu.length<=A.cp) (hok:iy n=true) (h:NQ w B n A G c):Calls prog 40 #[fT n A,.int .i64 no] w (iI w B c (bn n no)):=by
 by_cases hs:no<=n.old
 .exact Ji n A G c no w B hB h9 hs h
 cases hf:oq n.reqs no with
 |false=>exact Ng n A G c no w B hB h9 hok hs hf h
 |true=>
  have hil:=((pE n.reqs no).1 hf).1
  have hgd:n.reqs.getD (dZ n.reqs no) default=n.reqs[dZ n.reqs no]:=by rw [List.getD_eq_getElem?_getD,List.getElem?_eq_getElem hil];rfl
  have hJ:tJ n.reqs no=(dZ n.reqs no:Nat):=by unfold tJ;rw [if_pos hf]
  obtain⟨_,_,_,_,b1,b2⟩:=kK ((jl hok).2.2.1 _ (List.getElem_mem hil))
  obtain⟨ak,ap,ao,az,ar,ck,cp,co,cs,cr⟩:=A
  by_cases s1:n.reqs[dZ n.reqs no].s=1
  .exact QZ n ak ap ao az ar ck cp co cs cr G c no w B hB h9 _ hil hok hs hJ (by unfold bn;rw [if_neg hs,if_neg Abr,hgd,if_pos s1]) s1 h
  by_cases s2:n.reqs[dZ n.reqs no].s=2
  .exact Jh n ak ap ao az ar ck cp co cs cr G c no w B hB h9 _ hil hok hs hJ (by unfold bn;rw [if_neg hs,if_neg Abr,hgd,if_neg s1,if_pos s2]) s2 h
  obtain⟨R,hR⟩:∃R,dJ n.pu n.reqs[dZ n.reqs no].k 0 1 (-1) n.reqs[dZ n.reqs no].n=R:=⟨_,rfl⟩
  obtain⟨RL,b⟩:=R
  have hrel:bn n no=if b=true then(eH (setPu n RL) (n.reqs.set (dZ n.reqs no) (qj n.reqs[dZ n.reqs no])),0) else(n,1):=by
   unfold bn;rw [if_neg hs,if_neg Abr,hgd,if_neg s1,if_neg s2,hR]
  cases b with
  |false=>exact AP n ak ap ao az ar ck cp co cs cr G c no w B hB h9 _ hil hz hP vC hok hs hJ RL (by rw [hrel];simp) Aaa hR h
  |true=>exact CF n ak ap ao az ar ck cp co cs cr G c no w B hB h9 _ hil hz hP vC hok hs hJ RL (by rw [hrel];simp) Aaa hR h
theorem IK (n:Nd) (A:bC) (G:bJ) (c:Nat->Nat) (K no:Int) (k:ByteArray) (nn mK mF mT mI mL:Int) (mk:ByteArray) (mN:Int) (w:World) (B:Nat) (hB:B<=w.heap.size) (h9:∀x,6 < c x->c x=9) (hs:no<=n.old) (h:NQ w B n A G c):Calls prog 39 #[fT n A,.agg (cu K no k nn mK mF mT mI mL mk mN)] w (iI w B c (n,2)):=by
 unfold iI;have H9:=Hq h9;clear h9;have kS:=Hq (h.nine hB);clear h;go_in
 go_upto_region 1 with fail;refine wp_at (λW0 hW=>?_);obtain⟨e1,e2,e3,e4⟩:=gD w (.cells (dD n A) 30) (.cells (cu K no k nn mK mF mT mI mL mk mN) 34) (.cells fU 30);open ato in exact aaf
theorem Uh (K no:Int) (k:ByteArray) (nn mK mF mT mI mL:Int) (mk:ByteArray) (mN:Int) (w:World) (B:Nat) (hB:B<=w.heap.size) (h9:∀x,6 < c x->c x=9) (i:Nat) (hi:i < n.reqs.length) (hok:iy n=true) (hs:¬no<=n.old) (hJ:tJ n.reqs no=i) (rq:Rq) (hrq:n.reqs[i]=rq) (h1:(rq.s == 0)=false) (h:NQ w B n (⟨a_k,jE,eD,eO,gN,aL,bE,aP,aM,aV⟩:bC) G c):Calls prog 39 #[fT n (⟨a_k,jE,eD,eO,gN,aL,bE,aP,aM,aV⟩:bC),.agg (cu K no k nn mK mF mT mI mL mk mN)] w (iI w B c (n,1)):=by
 open azt in exact Yw4
theorem Ui (K no:Int) (k:ByteArray) (nn mK mF mT mI mL:Int) (mk:ByteArray) (mN:Int) (w:World) (B:Nat) (hB:B<=w.heap.size) (h9:∀x,6 < c x->c x=9) (i:Nat) (hi:i < n.reqs.length) (hok:iy n=true) (hs:¬no<=n.old) (hJ:tJ n.reqs no=i) (rq:Rq) (hrq:n.reqs[i]=rq) (h1:(rq.s == 0)=true) (h2:(rq.k.toList == k.toList)=false) (h:NQ w B n (⟨a_k,jE,eD,eO,gN,aL,bE,aP,aM,aV⟩:bC) G c):Calls prog 39 #[fT n (⟨a_k,jE,eD,eO,gN,aL,bE,aP,aM,aV⟩:bC),.agg (cu K no k nn mK mF mT mI mL mk mN)] w (iI w B c (n,1)):=by
 open azs in exact Yw4
theorem Uj (K no:Int) (k:ByteArray) (nn mK mF mT mI mL:Int) (mk:ByteArray) (mN:Int) (w:World) (B:Nat) (hB:B<=w.heap.size) (h9:∀x,6 < c x->c x=9) (i:Nat) (hi:i < n.reqs.length) (hok:iy n=true) (hs:¬no<=n.old) (hJ:tJ n.reqs no=i) (rq:Rq) (hrq:n.reqs[i]=rq) (h1:(rq.s == 0)=true) (h2:(rq.k.toList == k.toList)=true) (h3:(rq.n == nn)=false) (h:NQ w B n (⟨a_k,jE,eD,eO,gN,aL,bE,aP,aM,aV⟩:bC) G c):Calls prog 39 #[fT n (⟨a_k,jE,eD,eO,gN,aL,bE,aP,aM,aV⟩:bC),.agg (cu K no k nn mK mF mT mI mL mk mN)] w (iI w B c (n,1)):=by
 open azr in exact Yw4
theorem Uk (K no:Int) (k:ByteArray) (nn mK mF mT mI mL:Int) (mk:ByteArray) (mN:Int) (w:World) (B:Nat) (hB:B<=w.heap.size) (h9:∀x,6 < c x->c x=9) (i:Nat) (hi:i < n.reqs.length) (hok:iy n=true) (hs:¬no<=n.old) (hJ:tJ n.reqs no=i) (rq:Rq) (hrq:n.reqs[i]=rq) (h1:(rq.s == 0)=true) (h2:(rq.k.toList == k.toList)=true) (h3:(rq.n == nn)=true) (h:NQ w B n (⟨a_k,jE,eD,eO,gN,aL,bE,aP,aM,aV⟩:bC) G c):Calls prog 39 #[fT n (⟨a_k,jE,eD,eO,gN,aL,bE,aP,aM,aV⟩:bC),.agg (cu K no k nn mK mF mT mI mL mk mN)] w (iI w B c (n,0)):=by
 open azq in exact Yw4
end Go.Proofs.YtacgbldlonoaaaaGreatDoor
