/- Parts. -/
import Derived.Test.YtfachhcijcjbpaaGreatDoorRw33
namespace Go.Proofs.YtfachhcijcjbpaaGreatDoor
open Go.Proofs.Tryz
set_option maxHeartbeats 8000000
set_option maxRecDepth 100000
open Go.RowKit
open Mth
variable (n:Nd) (a_k qV iV iM jd:Option Addr) (cZ fD dW dw dG:Nat) (G:aR) (c:Nat->Nat) (K no:Int) (k:ByteArray) (nn mK mF mT mI mL:Int) (mk:ByteArray) (mN:Int) (w:World) (B:Nat) {α:Type} {en:α->List Value} {sz cp x g:Nat} {l:List α} {a pa:Option Addr} {W W':World} {e:TypeId} {F:List Nat} {pu PL:List Pu}
theorem Jl (n:Nd) (A:bg) (G:aR) (c:Nat->Nat) (K no:Int) (k:ByteArray) (nn mK mF mT mI mL:Int) (mk:ByteArray) (mN:Int) (w:World) (B:Nat) (hB:B<=w.heap.size) (h9:∀x,6 < c x->c x=9) (hs:no<=n.old) (h:NQ w B n A G c):Calls prog 98 #[gP n A,.agg (bE K no k nn mK mF mT mI mL mk mN)] w (iO w B c (n,2)):=by
 open asQ in exact aaK
theorem Ve (hB:B<=w.heap.size) (h9:∀x,6 < c x->c x=9) (i:Nat) (hi:i < n.reqs.length) (hok:gQ n=true) (hs:¬no<=n.old) (hJ:sW n.reqs no=i) (rq:Rq) (hrq:n.reqs[i]=rq) (h1:(rq.s == 0)=false) (h:NQ w B n (⟨a_k,qV,iV,iM,jd,cZ,fD,dW,dw,dG⟩:bg) G c):Calls prog 98 #[gP n (⟨a_k,qV,iV,iM,jd,cZ,fD,dW,dw,dG⟩:bg),.agg (bE K no k nn mK mF mT mI mL mk mN)] w (iO w B c (n,1)):=by
 open aAm in exact Yk6
theorem Vf (hB:B<=w.heap.size) (h9:∀x,6 < c x->c x=9) (i:Nat) (hi:i < n.reqs.length) (hok:gQ n=true) (hs:¬no<=n.old) (hJ:sW n.reqs no=i) (rq:Rq) (hrq:n.reqs[i]=rq) (h1:(rq.s == 0)=true) (h2:(rq.k.toList == k.toList)=false) (h:NQ w B n (⟨a_k,qV,iV,iM,jd,cZ,fD,dW,dw,dG⟩:bg) G c):Calls prog 98 #[gP n (⟨a_k,qV,iV,iM,jd,cZ,fD,dW,dw,dG⟩:bg),.agg (bE K no k nn mK mF mT mI mL mk mN)] w (iO w B c (n,1)):=by
 open aAl in exact Yk6
theorem Vg (hB:B<=w.heap.size) (h9:∀x,6 < c x->c x=9) (i:Nat) (hi:i < n.reqs.length) (hok:gQ n=true) (hs:¬no<=n.old) (hJ:sW n.reqs no=i) (rq:Rq) (hrq:n.reqs[i]=rq) (h1:(rq.s == 0)=true) (h2:(rq.k.toList == k.toList)=true) (h3:(rq.n == nn)=false) (h:NQ w B n (⟨a_k,qV,iV,iM,jd,cZ,fD,dW,dw,dG⟩:bg) G c):Calls prog 98 #[gP n (⟨a_k,qV,iV,iM,jd,cZ,fD,dW,dw,dG⟩:bg),.agg (bE K no k nn mK mF mT mI mL mk mN)] w (iO w B c (n,1)):=by
 exact axg
theorem Vh (hB:B<=w.heap.size) (h9:∀x,6 < c x->c x=9) (i:Nat) (hi:i < n.reqs.length) (hok:gQ n=true) (hs:¬no<=n.old) (hJ:sW n.reqs no=i) (rq:Rq) (hrq:n.reqs[i]=rq) (h1:(rq.s == 0)=true) (h2:(rq.k.toList == k.toList)=true) (h3:(rq.n == nn)=true) (h:NQ w B n (⟨a_k,qV,iV,iM,jd,cZ,fD,dW,dw,dG⟩:bg) G c):Calls prog 98 #[gP n (⟨a_k,qV,iV,iM,jd,cZ,fD,dW,dw,dG⟩:bg),.agg (bE K no k nn mK mF mT mI mL mk mN)] w (iO w B c (n,0)):=by
 exact axg
def zH {α:Type} (en:α->List Value) (sz lo:Nat) (W:World) (a:Option Addr) (l:List α):Prop:=GR.At en sz W a l/\∀g off,a=some ⟨g,off,none⟩->lo<=g
theorem zH.keeps {α:Type} {en:α->List Value} {sz lo:Nat} {W W':World} {a:Option Addr} {l:List α} {F:List Nat} (h:zH en sz lo W a l) (hk:aC F W W') (hF:∀x∈F,x < lo):zH en sz lo W' a l:=
 ⟨λi hi=>by
  obtain⟨g,off,e,hg,hc⟩:=h.1 i hi
  have hlo:=h.2 g off e
  have hb:=hk.block g hg (λhm=>by have:=hF g hm;omega)
  exact⟨g,off,e,aEH hg hk.size,λj hj=>(aE6 (w:=W) hb).trans (hc j hj)⟩,h.2⟩
theorem zH.below {α:Type} {en:α->List Value} {sz lo:Nat} {W W':World} {a:Option Addr} {l:List α} (h:zH en sz lo W a l) (hb:aG W W'):zH en sz lo W' a l:=⟨GR.At.below h.1 hb,h.2⟩
theorem zH.out {α:Type} {en:α->List Value} {sz lo:Nat} {w W' W'':World} {a:Option Addr} {l:List α} {c:Nat->Nat} (h:zH en sz lo W' a l) (hlo:w.heap.size<=lo) (ho:Out c w W' W''):GR.At en sz W'' a l:=by
 obtain⟨F,hk,hF⟩:=ho;exact(h.keeps hk (λx hx=>by have:=(hF x hx).1;omega)).1
theorem zH.own {α:Type} {en:α->List Value} {sz lo:Nat} {W:World} {e:TypeId} {a:Option Addr} {cp:Nat} {l:List α} (hs:∀x,(en x).length=sz) (h:W.ownsRow lo e sz (.slice a l.length cp) l.length (GR.flat en l)):zH en sz lo W a l:=by
 obtain⟨a',c',hv,hat⟩:=GR.own_at hs h;simp only[aFz] at hv;obtain⟨rfl,_,_⟩:=hv;refine⟨hat,λg off e'=>?_⟩;subst e';exact(h.lt g rfl).1
def LO {α:Type} (e:TypeId) (en:α->List Value) (sz lo:Nat) (W:World) (a:Option Addr) (cp:Nat) (l:List α):Prop:=W.ownsRow lo e sz (.slice a l.length cp) l.length (GR.flat en l)
theorem LO.own {α:Type} {e:TypeId} {en:α->List Value} {sz lo:Nat} {W:World} {a:Option Addr} {cp:Nat} {l:List α} (h:W.ownsRow lo e sz (.slice a l.length cp) l.length (GR.flat en l)):LO e en sz lo W a cp l:=h
theorem LO.lies {α:Type} {e:TypeId} {en:α->List Value} {sz lo:Nat} {W:World} {a:Option Addr} {cp:Nat} {l:List α} (h:LO e en sz lo W a cp l) (hs:∀x,(en x).length=sz):zH en sz lo W a l:=zH.own hs h
theorem LO.keeps {α:Type} {e:TypeId} {en:α->List Value} {sz lo:Nat} {W W':World} {a:Option Addr} {cp:Nat} {l:List α} {F:List Nat} (h:LO e en sz lo W a cp l) (hk:aC F W W') (hF:∀x∈F,x < lo):LO e en sz lo W' a cp l:=dA h hk hF
theorem LO.below {α:Type} {e:TypeId} {en:α->List Value} {sz lo:Nat} {W W':World} {a:Option Addr} {cp:Nat} {l:List α} (h:LO e en sz lo W a cp l) (hb:aG W W'):LO e en sz lo W' a cp l:=GR.own_below h hb
theorem LO.lower {α:Type} {e:TypeId} {en:α->List Value} {sz lo lo':Nat} {W:World} {a:Option Addr} {cp:Nat} {l:List α} (h:LO e en sz lo W a cp l) (hl:lo'<=lo):LO e en sz lo' W a cp l:=GR.own_lower h hl
theorem LO.out {α:Type} {e:TypeId} {en:α->List Value} {sz lo:Nat} {w W' W'':World} {a:Option Addr} {cp:Nat} {l:List α} {c:Nat->Nat} (h:LO e en sz lo W' a cp l) (hlo:w.heap.size<=lo) (ho:Out c w W' W''):LO e en sz lo W'' a cp l:=by
 obtain⟨F,hk,hF⟩:=ho;exact h.keeps hk (λx hx=>by have:=(hF x hx).1;omega)
theorem LO.lo {α:Type} {e:TypeId} {en:α->List Value} {sz lo:Nat} {W:World} {a:Option Addr} {cp x:Nat} {l:List α} (h:LO e en sz lo W a cp l) (hx:(Value.slice a l.length cp).ownBlock=some x):lo<=x:=uM h hx
theorem LO.ne {α β:Type} {e e':TypeId} {en:α->List Value} {en':β->List Value} {sz sz' lo lo':Nat} {W:World} {a a':Option Addr} {cp cp' x:Nat} {l:List α} {l':List β} (h:LO e en sz lo W a cp l) (h':LO e' en' sz' lo' W a' cp' l') (hne:e≠e') (hx:(Value.slice a l.length cp).ownBlock=some x):(Value.slice a' l'.length cp').ownBlock≠some x:=λhx'=>by
 rcases h.2 with⟨hv,_⟩|⟨g,cap,cur,hv,_,hgg,_⟩
 .rw [hv] at hx;simp[Value.ownBlock] at hx
 .rcases h'.2 with⟨hv',_⟩|⟨g',cap',cur',hv',_,akS,_⟩
  .rw [hv'] at hx';simp[Value.ownBlock] at hx'
  .rw [hv] at hx;rw [hv'] at hx';have e1:g=x:=Abj
   have e2:g'=x:=by simpa [Value.ownBlock] using hx'
   rw [e1] at hgg;rw [e2,hgg] at akS;simp only[aFR,Obj.cells.injEq] at akS;exact hne akS.2.1
theorem GR.At.take {α:Type} {en:α->List Value} {sz:Nat} {w:World} {a:Option Addr} {l:List α} (h:GR.At en sz w a l) (k:Nat):GR.At en sz w a (l.take k):=λi hi=>by
 have hi':i < l.length:=by rw [aEX] at hi;omega
 obtain⟨g,off,e,hg,hc⟩:=h i hi';exact⟨g,off,e,hg,λj hj=>by rw [hc j hj,List.getElem_take]⟩
theorem GR.At.drop {α:Type} {en:α->List Value} {sz g0:Nat} {w:World} {l:List α} (h:GR.At en sz w (some ⟨g0,0,none⟩) l) (k:Nat):GR.At en sz w (some ⟨g0,k*sz,none⟩) (l.drop k):=λi hi=>by
 have hi':k+i < l.length:=by rw [aE8] at hi;omega
 obtain⟨g,off,e,hg,hc⟩:=h (k+i) hi';cases e
 exact⟨g0,k*sz,rfl,hg,λj hj=>by rw [List.getElem_drop,<-hc j hj,aGt];congr 2;omega⟩
theorem lU {w:World} {g' i:Nat} {o:Obj} (v:Value) (hne:g'≠g) (h:w.heap[g']?=some o):(w.setCell ⟨g,i,none⟩ v).heap[g']?=some o:=(aEU _ _ _ _ hne).trans h
def PD (gp:Nat) (pu:List Pu) (lo:Nat) (W:World) (pa:Option Addr) (pc:Nat) (PL:List Pu):Prop:=LO 142 fO 4 lo W pa pc PL\/pa=some ⟨gp,0,none⟩/\PL=pu
theorem PD.keeps {gp lo pc:Nat} (h:PD gp pu lo W pa pc PL) (hk:aC F W W') (hF:∀x∈F,x < lo):PD gp pu lo W' pa pc PL:=h.elim (λh=> .inl (h.keeps hk hF)) .inr
theorem PD.below {gp lo pc:Nat} (h:PD gp pu lo W pa pc PL) (hb:aG W W'):PD gp pu lo W' pa pc PL:=h.elim (λh=> .inl (h.below hb)) .inr
theorem Gg {w:World} {cs:Array Value} {t:TypeId} (h:w.heap[g]?=some (.cells cs t (0,0))):w.rangeAt g 0 cs.toList:=λj v hv=>by
 rw [aFq,aEz w g j _ t (0,0) h];simpa using hv
theorem Bb (hB:B<=w.heap.size) (h9:∀x,6 < c x->c x=9) (hz:eH n 1048576) (hkz:k.size<=1048576) (hP:∃g,qV=some ⟨g,0,none⟩) (yI:n.pu.length<=fD) (hR:∃g,jd=some ⟨g,0,none⟩) (hRc:n.reqs.length<=dG) (hok:gQ n=true) (hs:¬no<=n.old) (hf:nW n.reqs no=false) (RL PL:List Pu) (ok:Bool) (st:Int) (hu:cK n.pu k 0 (-1) 1 nn=(RL,ok)) (hPL:(if ok=true then RL else n.pu)=PL) (hst:(if ok=true then 0 else 1)=st) (h:NQ w B n (⟨a_k,qV,iV,iM,jd,cZ,fD,dW,dw,dG⟩:bg) G c):Calls prog 98 #[gP n (⟨a_k,qV,iV,iM,jd,cZ,fD,dW,dw,dG⟩:bg),.agg (bE K no k nn mK mF mT mI mL mk mN)] w (iO w B c (qY (setPu n PL) ⟨no,k,nn,st⟩,st)):=by
 obtain⟨gp,hgp⟩:=hP;obtain⟨gr,hgr⟩:=hR;subst hgp;subst hgr;have SL:=Hq (λW (ha:aH W (some ⟨gp,0,none⟩) n.pu)=>ZC gp 0 fD n.pu k nn W (aEA hz.p Aaa) yI hz.pk hkz ha);unfold iN at SL;rw [hu] at SL;have hp:=iL hok;have OO:=Hq (λW1 (ha:fJ W1 (some ⟨gr,0,none⟩) n.reqs)=>Bd n (⟨a_k,(some ⟨gp,0,none⟩),iV,iM,(some ⟨gr,0,none⟩),cZ,fD,dW,dw,dG⟩:bg) no W1 Aaa hp.1 ha);rw [show sW n.reqs no= -1 by unfold sW;rw [hf];rfl] at OO;have Ij:=Hq hp.1;have aB6:=hp.2.1;clear hp hok hf hu hkz hz yI;open asR in exact aaK
theorem Zx (n:Nd) (A:bg) (G:aR) (c:Nat->Nat) (K no:Int) (k:ByteArray) (nn mK mF mT mI mL:Int) (mk:ByteArray) (mN:Int) (w:World) (B:Nat) (hB:B<=w.heap.size) (h9:∀x,6 < c x->c x=9) (hz:eH n 1048576) (hkz:k.size<=1048576) (hP:∃g,A.p=some ⟨g,0,none⟩) (yI:n.pu.length<=A.cp) (hR:∃g,A.r=some ⟨g,0,none⟩) (hRc:n.reqs.length<=A.cr) (hok:gQ n=true) (h:NQ w B n A G c):
 Calls prog 98 #[gP n A,.agg (bE K no k nn mK mF mT mI mL mk mN)] w (iO w B c (fE n no k nn)):=by
 by_cases hs:no<=n.old
 .rw [show fE n no k nn=(n,2) from aER hs];exact Jl n A G c K no k nn mK mF mT mI mL mk mN w B hB h9 hs h
 cases hf:nW n.reqs no
 .cases hu:cK n.pu k 0 (-1) 1 nn with
  |mk RL ok=>
   obtain⟨ak,ap,ao,as',ar,ck,cp,co,cs,cr⟩:=A;cases ok
   .have hk:=J2 (l:=n.pu) (key:=k) (dm:=0) (df:= -1) (ds:=1) (n:=nn) (by rw [hu]);rw [hu] at hk;dsimp only at hk
    rw [show fE n no k nn=(qY n ⟨no,k,nn,1⟩,1) by
     unfold fE
     rw [aEG hs,hf,hu]
     simp only[hk]
     rfl]
    exact Bb n ak ap ao as' ar ck cp co cs cr G c K no k nn mK mF mT mI mL mk mN w B hB h9 hz hkz hP yI hR hRc hok hs hf RL n.pu false 1 hu rfl rfl h
   .rw [show fE n no k nn=(qY (setPu n RL) ⟨no,k,nn,0⟩,0) by
     unfold fE
     rw [aEG hs,hf,hu]
     rfl]
    exact Bb n ak ap ao as' ar ck cp co cs cr G c K no k nn mK mF mT mI mL mk mN w B hB h9 hz hkz hP yI hR hRc hok hs hf RL RL true 0 hu rfl rfl h
 .obtain⟨hi,hno⟩:=(nX n.reqs no).1 hf;have hJ:sW n.reqs no=(dV n.reqs no:Nat):=by unfold sW;rw [hf];rfl
  have hA:fE n no k nn=(n,if Gp n.reqs[dV n.reqs no] k nn=true then 0 else 1):=by
   unfold fE;rw [aEG hs,aER hf,aE7,aEB hi,Option.getD_some]
  rw [hA];clear hA;generalize hrq:n.reqs[dV n.reqs no]=rq at *;obtain⟨ak,ap,ao,as',ar,ck,cp,co,cs,cr⟩:=A;unfold Gp;by_cases h1:rq.s=0
  .have b1:(rq.s == 0)=true:=Aap
   cases h2:(rq.k.toList == k.toList)
   .rw [show(if (decide (rq.s=0)&&false&&decide (rq.n=nn))=true then(0:Int) else 1)=1 by simp];exact Vf n ak ap ao as' ar ck cp co cs cr G c K no k nn mK mF mT mI mL mk mN w B hB h9 _ hi hok hs hJ rq hrq b1 h2 h
   .by_cases h3:rq.n=nn
    .rw [show(if (decide (rq.s=0)&&true&&decide (rq.n=nn))=true then(0:Int) else 1)=0 by simp[h1,h3]];exact Vh n ak ap ao as' ar ck cp co cs cr G c K no k nn mK mF mT mI mL mk mN w B hB h9 _ hi hok hs hJ rq hrq b1 h2 (by simpa using h3) h
    .rw [show(if (decide (rq.s=0)&&true&&decide (rq.n=nn))=true then(0:Int) else 1)=1 by simp[h3]];exact Vg n ak ap ao as' ar ck cp co cs cr G c K no k nn mK mF mT mI mL mk mN w B hB h9 _ hi hok hs hJ rq hrq b1 h2 (by simpa using h3) h
  .rw [show(if (decide (rq.s=0)&&(rq.k.toList == k.toList)&&decide (rq.n=nn))=true then(0:Int) else 1)=1 by simp[h1]];exact Ve n ak ap ao as' ar ck cp co cs cr G c K no k nn mK mF mT mI mL mk mN w B hB h9 _ hi hok hs hJ rq hrq Aap h
end Go.Proofs.YtfachhcijcjbpaaGreatDoor
