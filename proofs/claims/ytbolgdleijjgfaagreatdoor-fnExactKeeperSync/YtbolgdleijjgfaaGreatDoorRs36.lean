/- Parts. -/
import Derived.Test.YtbolgdleijjgfaaGreatDoorRs35
namespace Go.Proofs.YtbolgdleijjgfaaGreatDoor
open Go.Proofs.Tryz
set_option maxHeartbeats 8000000
set_option maxRecDepth 100000
open Go.RowKit
open Mth
variable (n:Nd) (a_k rG je iU jq:Option Addr) (dz fJ dX dA dK:Nat) (G:aK) (c:Nat->Nat) (K no:Int) (k:ByteArray) (nn mK mF mT mI mL:Int) (mk:ByteArray) (mN:Int) (w:World) (B:Nat) {α:Type} {en:α->List Value} {sz cp x g:Nat} {l:List α} {a pa:Option Addr} {W W':World} {e:TypeId} {F:List Nat} {pu PL:List Pu}
theorem Je (n:Nd) (A:bq) (G:aK) (c:Nat->Nat) (K no:Int) (k:ByteArray) (nn mK mF mT mI mL:Int) (mk:ByteArray) (mN:Int) (w:World) (B:Nat) (hB:B<=w.heap.size) (h9:∀x,6 < c x->c x=9) (hs:no<=n.old) (h:NQ w B n A G c):Calls prog 128 #[gM n A,.agg (bJ K no k nn mK mF mT mI mL mk mN)] w (iW w B c (n,2)):=by
 open asV in exact aaF
theorem UE (hB:B<=w.heap.size) (h9:∀x,6 < c x->c x=9) (i:Nat) (hi:i < n.reqs.length) (hok:gX n=true) (hs:¬no<=n.old) (hJ:tL n.reqs no=i) (rq:Rq) (hrq:n.reqs[i]=rq) (h1:(rq.s == 0)=false) (h:NQ w B n (⟨a_k,rG,je,iU,jq,dz,fJ,dX,dA,dK⟩:bq) G c):Calls prog 128 #[gM n (⟨a_k,rG,je,iU,jq,dz,fJ,dX,dA,dK⟩:bq),.agg (bJ K no k nn mK mF mT mI mL mk mN)] w (iW w B c (n,1)):=by
 open aAG in exact Yk6
theorem UF (hB:B<=w.heap.size) (h9:∀x,6 < c x->c x=9) (i:Nat) (hi:i < n.reqs.length) (hok:gX n=true) (hs:¬no<=n.old) (hJ:tL n.reqs no=i) (rq:Rq) (hrq:n.reqs[i]=rq) (h1:(rq.s == 0)=true) (h2:(rq.k.toList == k.toList)=false) (h:NQ w B n (⟨a_k,rG,je,iU,jq,dz,fJ,dX,dA,dK⟩:bq) G c):Calls prog 128 #[gM n (⟨a_k,rG,je,iU,jq,dz,fJ,dX,dA,dK⟩:bq),.agg (bJ K no k nn mK mF mT mI mL mk mN)] w (iW w B c (n,1)):=by
 open aAF in exact Yk6
theorem UG (hB:B<=w.heap.size) (h9:∀x,6 < c x->c x=9) (i:Nat) (hi:i < n.reqs.length) (hok:gX n=true) (hs:¬no<=n.old) (hJ:tL n.reqs no=i) (rq:Rq) (hrq:n.reqs[i]=rq) (h1:(rq.s == 0)=true) (h2:(rq.k.toList == k.toList)=true) (h3:(rq.n == nn)=false) (h:NQ w B n (⟨a_k,rG,je,iU,jq,dz,fJ,dX,dA,dK⟩:bq) G c):Calls prog 128 #[gM n (⟨a_k,rG,je,iU,jq,dz,fJ,dX,dA,dK⟩:bq),.agg (bJ K no k nn mK mF mT mI mL mk mN)] w (iW w B c (n,1)):=by
 exact axE
theorem UH (hB:B<=w.heap.size) (h9:∀x,6 < c x->c x=9) (i:Nat) (hi:i < n.reqs.length) (hok:gX n=true) (hs:¬no<=n.old) (hJ:tL n.reqs no=i) (rq:Rq) (hrq:n.reqs[i]=rq) (h1:(rq.s == 0)=true) (h2:(rq.k.toList == k.toList)=true) (h3:(rq.n == nn)=true) (h:NQ w B n (⟨a_k,rG,je,iU,jq,dz,fJ,dX,dA,dK⟩:bq) G c):Calls prog 128 #[gM n (⟨a_k,rG,je,iU,jq,dz,fJ,dX,dA,dK⟩:bq),.agg (bJ K no k nn mK mF mT mI mL mk mN)] w (iW w B c (n,0)):=by
 exact axE
def zO {α:Type} (en:α->List Value) (sz lo:Nat) (W:World) (a:Option Addr) (l:List α):Prop:=GR.At en sz W a l/\∀g off,a=some ⟨g,off,none⟩->lo<=g
theorem zO.keeps {α:Type} {en:α->List Value} {sz lo:Nat} {W W':World} {a:Option Addr} {l:List α} {F:List Nat} (h:zO en sz lo W a l) (hk:aA F W W') (hF:∀x∈F,x < lo):zO en sz lo W' a l:=
 ⟨λi hi=>by
  obtain⟨g,off,e,hg,hc⟩:=h.1 i hi
  have hlo:=h.2 g off e
  have hb:=hk.block g hg (λhm=>by have:=hF g hm;omega)
  exact⟨g,off,e,aEU hg hk.size,λj hj=>(aFq (w:=W) hb).trans (hc j hj)⟩,h.2⟩
theorem zO.below {α:Type} {en:α->List Value} {sz lo:Nat} {W W':World} {a:Option Addr} {l:List α} (h:zO en sz lo W a l) (hb:aH W W'):zO en sz lo W' a l:=⟨GR.At.below h.1 hb,h.2⟩
theorem zO.out {α:Type} {en:α->List Value} {sz lo:Nat} {w W' W'':World} {a:Option Addr} {l:List α} {c:Nat->Nat} (h:zO en sz lo W' a l) (hlo:w.heap.size<=lo) (ho:Out c w W' W''):GR.At en sz W'' a l:=by
 obtain⟨F,hk,hF⟩:=ho;exact(h.keeps hk (λx hx=>by have:=(hF x hx).1;omega)).1
theorem zO.own {α:Type} {en:α->List Value} {sz lo:Nat} {W:World} {e:TypeId} {a:Option Addr} {cp:Nat} {l:List α} (hs:∀x,(en x).length=sz) (h:W.ownsRow lo e sz (.slice a l.length cp) l.length (GR.flat en l)):zO en sz lo W a l:=by
 obtain⟨a',c',hv,hat⟩:=GR.own_at hs h;simp only[aFI] at hv;obtain⟨rfl,_,_⟩:=hv;refine⟨hat,λg off e'=>?_⟩;subst e';exact(h.lt g rfl).1
def LO {α:Type} (e:TypeId) (en:α->List Value) (sz lo:Nat) (W:World) (a:Option Addr) (cp:Nat) (l:List α):Prop:=W.ownsRow lo e sz (.slice a l.length cp) l.length (GR.flat en l)
theorem LO.own {α:Type} {e:TypeId} {en:α->List Value} {sz lo:Nat} {W:World} {a:Option Addr} {cp:Nat} {l:List α} (h:W.ownsRow lo e sz (.slice a l.length cp) l.length (GR.flat en l)):LO e en sz lo W a cp l:=h
theorem LO.lies {α:Type} {e:TypeId} {en:α->List Value} {sz lo:Nat} {W:World} {a:Option Addr} {cp:Nat} {l:List α} (h:LO e en sz lo W a cp l) (hs:∀x,(en x).length=sz):zO en sz lo W a l:=zO.own hs h
theorem LO.keeps {α:Type} {e:TypeId} {en:α->List Value} {sz lo:Nat} {W W':World} {a:Option Addr} {cp:Nat} {l:List α} {F:List Nat} (h:LO e en sz lo W a cp l) (hk:aA F W W') (hF:∀x∈F,x < lo):LO e en sz lo W' a cp l:=dD h hk hF
theorem LO.below {α:Type} {e:TypeId} {en:α->List Value} {sz lo:Nat} {W W':World} {a:Option Addr} {cp:Nat} {l:List α} (h:LO e en sz lo W a cp l) (hb:aH W W'):LO e en sz lo W' a cp l:=GR.own_below h hb
theorem LO.lower {α:Type} {e:TypeId} {en:α->List Value} {sz lo lo':Nat} {W:World} {a:Option Addr} {cp:Nat} {l:List α} (h:LO e en sz lo W a cp l) (hl:lo'<=lo):LO e en sz lo' W a cp l:=GR.own_lower h hl
theorem LO.out {α:Type} {e:TypeId} {en:α->List Value} {sz lo:Nat} {w W' W'':World} {a:Option Addr} {cp:Nat} {l:List α} {c:Nat->Nat} (h:LO e en sz lo W' a cp l) (hlo:w.heap.size<=lo) (ho:Out c w W' W''):LO e en sz lo W'' a cp l:=by
 obtain⟨F,hk,hF⟩:=ho;exact h.keeps hk (λx hx=>by have:=(hF x hx).1;omega)
theorem LO.lo {α:Type} {e:TypeId} {en:α->List Value} {sz lo:Nat} {W:World} {a:Option Addr} {cp x:Nat} {l:List α} (h:LO e en sz lo W a cp l) (hx:(Value.slice a l.length cp).ownBlock=some x):lo<=x:=vw h hx
theorem LO.ne {α β:Type} {e e':TypeId} {en:α->List Value} {en':β->List Value} {sz sz' lo lo':Nat} {W:World} {a a':Option Addr} {cp cp' x:Nat} {l:List α} {l':List β} (h:LO e en sz lo W a cp l) (h':LO e' en' sz' lo' W a' cp' l') (hne:e≠e') (hx:(Value.slice a l.length cp).ownBlock=some x):(Value.slice a' l'.length cp').ownBlock≠some x:=λhx'=>by
 rcases h.2 with⟨hv,_⟩|⟨g,cap,cur,hv,_,hgg,_⟩
 .rw [hv] at hx;simp[Value.ownBlock] at hx
 .rcases h'.2 with⟨hv',_⟩|⟨g',cap',cur',hv',_,akQ,_⟩
  .rw [hv'] at hx';simp[Value.ownBlock] at hx'
  .rw [hv] at hx;rw [hv'] at hx';have e1:g=x:=Abl
   have e2:g'=x:=by simpa [Value.ownBlock] using hx'
   rw [e1] at hgg;rw [e2,hgg] at akQ;simp only[aGc,Obj.cells.injEq] at akQ;exact hne akQ.2.1
theorem GR.At.take {α:Type} {en:α->List Value} {sz:Nat} {w:World} {a:Option Addr} {l:List α} (h:GR.At en sz w a l) (k:Nat):GR.At en sz w a (l.take k):=λi hi=>by
 have hi':i < l.length:=by rw [aFf] at hi;omega
 obtain⟨g,off,e,hg,hc⟩:=h i hi';exact⟨g,off,e,hg,λj hj=>by rw [hc j hj,List.getElem_take]⟩
theorem GR.At.drop {α:Type} {en:α->List Value} {sz g0:Nat} {w:World} {l:List α} (h:GR.At en sz w (some ⟨g0,0,none⟩) l) (k:Nat):GR.At en sz w (some ⟨g0,k*sz,none⟩) (l.drop k):=λi hi=>by
 have hi':k+i < l.length:=by rw [aFt] at hi;omega
 obtain⟨g,off,e,hg,hc⟩:=h (k+i) hi';cases e
 exact⟨g0,k*sz,rfl,hg,λj hj=>by rw [List.getElem_drop,<-hc j hj,aGx];congr 2;omega⟩
theorem l7 {w:World} {g' i:Nat} {o:Obj} (v:Value) (hne:g'≠g) (h:w.heap[g']?=some o):(w.setCell ⟨g,i,none⟩ v).heap[g']?=some o:=(aE9 _ _ _ _ hne).trans h
def PD (gp:Nat) (pu:List Pu) (lo:Nat) (W:World) (pa:Option Addr) (pc:Nat) (PL:List Pu):Prop:=LO 155 fu 4 lo W pa pc PL\/pa=some ⟨gp,0,none⟩/\PL=pu
theorem PD.keeps {gp lo pc:Nat} (h:PD gp pu lo W pa pc PL) (hk:aA F W W') (hF:∀x∈F,x < lo):PD gp pu lo W' pa pc PL:=h.elim (λh=> .inl (h.keeps hk hF)) .inr
theorem PD.below {gp lo pc:Nat} (h:PD gp pu lo W pa pc PL) (hb:aH W W'):PD gp pu lo W' pa pc PL:=h.elim (λh=> .inl (h.below hb)) .inr
theorem Gh {w:World} {cs:Array Value} {t:TypeId} (h:w.heap[g]?=some (.cells cs t (0,0))):w.rangeAt g 0 cs.toList:=λj v hv=>by
 rw [aFz,aEW w g j _ t (0,0) h];simpa using hv
theorem Bl (hB:B<=w.heap.size) (h9:∀x,6 < c x->c x=9) (hz:eF n 1048576) (hkz:k.size<=1048576) (hP:∃g,rG=some ⟨g,0,none⟩) (yP:n.pu.length<=fJ) (hR:∃g,jq=some ⟨g,0,none⟩) (hRc:n.reqs.length<=dK) (hok:gX n=true) (hs:¬no<=n.old) (hf:oq n.reqs no=false) (RL PL:List Pu) (ok:Bool) (st:Int) (hu:dw n.pu k 0 (-1) 1 nn=(RL,ok)) (hPL:(if ok=true then RL else n.pu)=PL) (hst:(if ok=true then 0 else 1)=st) (h:NQ w B n (⟨a_k,rG,je,iU,jq,dz,fJ,dX,dA,dK⟩:bq) G c):Calls prog 128 #[gM n (⟨a_k,rG,je,iU,jq,dz,fJ,dX,dA,dK⟩:bq),.agg (bJ K no k nn mK mF mT mI mL mk mN)] w (iW w B c (rJ (setPu n PL) ⟨no,k,nn,st⟩,st)):=by
 obtain⟨gp,hgp⟩:=hP;obtain⟨gr,hgr⟩:=hR;subst hgp;subst hgr;have Sd:=Hq (λW (ha:aG W (some ⟨gp,0,none⟩) n.pu)=>ZC gp 0 fJ n.pu k nn W (aEP hz.p Aaa) yP hz.pk hkz ha);unfold iV at Sd;rw [hu] at Sd;have hp:=iT hok;have Ow:=Hq (λW1 (ha:fT W1 (some ⟨gr,0,none⟩) n.reqs)=>Bq n (⟨a_k,(some ⟨gp,0,none⟩),je,iU,(some ⟨gr,0,none⟩),dz,fJ,dX,dA,dK⟩:bq) no W1 Aaa hp.1 ha);rw [show tL n.reqs no= -1 by unfold tL;rw [hf];rfl] at Ow;have H6:=Hq hp.1;have aD0:=hp.2.1;clear hp hok hf hu hkz hz yP;open asW in exact aaF
theorem Zx (n:Nd) (A:bq) (G:aK) (c:Nat->Nat) (K no:Int) (k:ByteArray) (nn mK mF mT mI mL:Int) (mk:ByteArray) (mN:Int) (w:World) (B:Nat) (hB:B<=w.heap.size) (h9:∀x,6 < c x->c x=9) (hz:eF n 1048576) (hkz:k.size<=1048576) (hP:∃g,A.p=some ⟨g,0,none⟩) (yP:n.pu.length<=A.cp) (hR:∃g,A.r=some ⟨g,0,none⟩) (hRc:n.reqs.length<=A.cr) (hok:gX n=true) (h:NQ w B n A G c):
 Calls prog 128 #[gM n A,.agg (bJ K no k nn mK mF mT mI mL mk mN)] w (iW w B c (fK n no k nn)):=by
 by_cases hs:no<=n.old
 .rw [show fK n no k nn=(n,2) from aE7 hs];exact Je n A G c K no k nn mK mF mT mI mL mk mN w B hB h9 hs h
 cases hf:oq n.reqs no
 .cases hu:dw n.pu k 0 (-1) 1 nn with
  |mk RL ok=>
   obtain⟨ak,ap,ao,as',ar,ck,cp,co,cs,cr⟩:=A;cases ok
   .have hk:=JQ (l:=n.pu) (key:=k) (dm:=0) (df:= -1) (ds:=1) (n:=nn) (by rw [hu]);rw [hu] at hk;dsimp only at hk
    rw [show fK n no k nn=(rJ n ⟨no,k,nn,1⟩,1) by
     unfold fK
     rw [aEX hs,hf,hu]
     simp only[hk]
     rfl]
    exact Bl n ak ap ao as' ar ck cp co cs cr G c K no k nn mK mF mT mI mL mk mN w B hB h9 hz hkz hP yP hR hRc hok hs hf RL n.pu false 1 hu rfl rfl h
   .rw [show fK n no k nn=(rJ (setPu n RL) ⟨no,k,nn,0⟩,0) by
     unfold fK
     rw [aEX hs,hf,hu]
     rfl]
    exact Bl n ak ap ao as' ar ck cp co cs cr G c K no k nn mK mF mT mI mL mk mN w B hB h9 hz hkz hP yP hR hRc hok hs hf RL RL true 0 hu rfl rfl h
 .obtain⟨hi,hno⟩:=(ou n.reqs no).1 hf;have hJ:tL n.reqs no=(dW n.reqs no:Nat):=by unfold tL;rw [hf];rfl
  have hA:fK n no k nn=(n,if Gp n.reqs[dW n.reqs no] k nn=true then 0 else 1):=by
   unfold fK;rw [aEX hs,aE7 hf,aFl,aEQ hi,Option.getD_some]
  rw [hA];clear hA;generalize hrq:n.reqs[dW n.reqs no]=rq at *;obtain⟨ak,ap,ao,as',ar,ck,cp,co,cs,cr⟩:=A;unfold Gp;by_cases h1:rq.s=0
  .have b1:(rq.s == 0)=true:=Aaw
   cases h2:(rq.k.toList == k.toList)
   .rw [show(if (decide (rq.s=0)&&false&&decide (rq.n=nn))=true then(0:Int) else 1)=1 by simp];exact UF n ak ap ao as' ar ck cp co cs cr G c K no k nn mK mF mT mI mL mk mN w B hB h9 _ hi hok hs hJ rq hrq b1 h2 h
   .by_cases h3:rq.n=nn
    .rw [show(if (decide (rq.s=0)&&true&&decide (rq.n=nn))=true then(0:Int) else 1)=0 by simp[h1,h3]];exact UH n ak ap ao as' ar ck cp co cs cr G c K no k nn mK mF mT mI mL mk mN w B hB h9 _ hi hok hs hJ rq hrq b1 h2 Aci h
    .rw [show(if (decide (rq.s=0)&&true&&decide (rq.n=nn))=true then(0:Int) else 1)=1 by simp[h3]];exact UG n ak ap ao as' ar ck cp co cs cr G c K no k nn mK mF mT mI mL mk mN w B hB h9 _ hi hok hs hJ rq hrq b1 h2 Aci h
  .rw [show(if (decide (rq.s=0)&&(rq.k.toList == k.toList)&&decide (rq.n=nn))=true then(0:Int) else 1)=1 by simp[h1]];exact UE n ak ap ao as' ar ck cp co cs cr G c K no k nn mK mF mT mI mL mk mN w B hB h9 _ hi hok hs hJ rq hrq Aaw h
end Go.Proofs.YtbolgdleijjgfaaGreatDoor
