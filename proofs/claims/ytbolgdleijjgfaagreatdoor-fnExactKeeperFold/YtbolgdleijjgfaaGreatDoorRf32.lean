/- Parts. -/
import Derived.Test.YtbolgdleijjgfaaGreatDoorRf31
namespace Go.Proofs.YtbolgdleijjgfaaGreatDoor
open Go.Proofs.Tryz
set_option maxHeartbeats 8000000
set_option maxRecDepth 100000
open Go.RowKit
open Mth
def zW {α:Type} (en:α->List Value) (sz lo:Nat) (W:World) (a:Option Addr) (l:List α):Prop:=GR.At en sz W a l/\∀g off,a=some ⟨g,off,none⟩->lo<=g
theorem zW.keeps {α:Type} {en:α->List Value} {sz lo:Nat} {W W':World} {a:Option Addr} {l:List α} {F:List Nat} (h:zW en sz lo W a l) (hk:aA F W W') (hF:∀x∈F,x < lo):zW en sz lo W' a l:=
 ⟨λi hi=>by
  obtain⟨g,off,e,hg,hc⟩:=h.1 i hi
  have hlo:=h.2 g off e
  have hb:=hk.block g hg (λhm=>by have:=hF g hm;omega)
  exact⟨g,off,e,aEZ hg hk.size,λj hj=>(aFw (w:=W) hb).trans (hc j hj)⟩,h.2⟩
theorem zW.below {α:Type} {en:α->List Value} {sz lo:Nat} {W W':World} {a:Option Addr} {l:List α} (h:zW en sz lo W a l) (hb:aH W W'):zW en sz lo W' a l:=⟨GR.At.below h.1 hb,h.2⟩
theorem zW.out {α:Type} {en:α->List Value} {sz lo:Nat} {w W' W'':World} {a:Option Addr} {l:List α} {c:Nat->Nat} (h:zW en sz lo W' a l) (hlo:w.heap.size<=lo) (ho:Out c w W' W''):GR.At en sz W'' a l:=by
 obtain⟨F,hk,hF⟩:=ho;exact(h.keeps hk (λx hx=>by have:=(hF x hx).1;omega)).1
theorem zW.own {α:Type} {en:α->List Value} {sz lo:Nat} {W:World} {e:TypeId} {a:Option Addr} {cp:Nat} {l:List α} (hs:∀x,(en x).length=sz) (h:W.ownsRow lo e sz (.slice a l.length cp) l.length (GR.flat en l)):zW en sz lo W a l:=by
 obtain⟨a',c',hv,hat⟩:=GR.own_at hs h;simp only[aFN] at hv;obtain⟨rfl,_,_⟩:=hv;refine⟨hat,λg off e'=>?_⟩;subst e';exact(h.lt g rfl).1
def LO {α:Type} (e:TypeId) (en:α->List Value) (sz lo:Nat) (W:World) (a:Option Addr) (cp:Nat) (l:List α):Prop:=W.ownsRow lo e sz (.slice a l.length cp) l.length (GR.flat en l)
theorem LO.own {α:Type} {e:TypeId} {en:α->List Value} {sz lo:Nat} {W:World} {a:Option Addr} {cp:Nat} {l:List α} (h:W.ownsRow lo e sz (.slice a l.length cp) l.length (GR.flat en l)):LO e en sz lo W a cp l:=h
theorem LO.lies {α:Type} {e:TypeId} {en:α->List Value} {sz lo:Nat} {W:World} {a:Option Addr} {cp:Nat} {l:List α} (h:LO e en sz lo W a cp l) (hs:∀x,(en x).length=sz):zW en sz lo W a l:=zW.own hs h
theorem LO.keeps {α:Type} {e:TypeId} {en:α->List Value} {sz lo:Nat} {W W':World} {a:Option Addr} {cp:Nat} {l:List α} {F:List Nat} (h:LO e en sz lo W a cp l) (hk:aA F W W') (hF:∀x∈F,x < lo):LO e en sz lo W' a cp l:=dM h hk hF
theorem LO.below {α:Type} {e:TypeId} {en:α->List Value} {sz lo:Nat} {W W':World} {a:Option Addr} {cp:Nat} {l:List α} (h:LO e en sz lo W a cp l) (hb:aH W W'):LO e en sz lo W' a cp l:=GR.own_below h hb
theorem LO.lower {α:Type} {e:TypeId} {en:α->List Value} {sz lo lo':Nat} {W:World} {a:Option Addr} {cp:Nat} {l:List α} (h:LO e en sz lo W a cp l) (hl:lo'<=lo):LO e en sz lo' W a cp l:=GR.own_lower h hl
theorem LO.out {α:Type} {e:TypeId} {en:α->List Value} {sz lo:Nat} {w W' W'':World} {a:Option Addr} {cp:Nat} {l:List α} {c:Nat->Nat} (h:LO e en sz lo W' a cp l) (hlo:w.heap.size<=lo) (ho:Out c w W' W''):LO e en sz lo W'' a cp l:=by
 obtain⟨F,hk,hF⟩:=ho;exact h.keeps hk (λx hx=>by have:=(hF x hx).1;omega)
theorem LO.lo {α:Type} {e:TypeId} {en:α->List Value} {sz lo:Nat} {W:World} {a:Option Addr} {cp x:Nat} {l:List α} (h:LO e en sz lo W a cp l) (hx:(Value.slice a l.length cp).ownBlock=some x):lo<=x:=vD h hx
theorem LO.ne {α β:Type} {e e':TypeId} {en:α->List Value} {en':β->List Value} {sz sz' lo lo':Nat} {W:World} {a a':Option Addr} {cp cp' x:Nat} {l:List α} {l':List β} (h:LO e en sz lo W a cp l) (h':LO e' en' sz' lo' W a' cp' l') (hne:e≠e') (hx:(Value.slice a l.length cp).ownBlock=some x):(Value.slice a' l'.length cp').ownBlock≠some x:=λhx'=>by
 rcases h.2 with⟨hv,_⟩|⟨g,cap,cur,hv,_,hgg,_⟩
 .rw [hv] at hx;simp[Value.ownBlock] at hx
 .rcases h'.2 with⟨hv',_⟩|⟨g',cap',cur',hv',_,akI,_⟩
  .rw [hv'] at hx';simp[Value.ownBlock] at hx'
  .rw [hv] at hx;rw [hv'] at hx';have e1:g=x:=Abl
   have e2:g'=x:=by simpa [Value.ownBlock] using hx'
   rw [e1] at hgg;rw [e2,hgg] at akI;simp only[aGh,Obj.cells.injEq] at akI;exact hne akI.2.1
theorem GR.At.take {α:Type} {en:α->List Value} {sz:Nat} {w:World} {a:Option Addr} {l:List α} (h:GR.At en sz w a l) (k:Nat):GR.At en sz w a (l.take k):=λi hi=>by
 have hi':i < l.length:=by rw [aFj] at hi;omega
 obtain⟨g,off,e,hg,hc⟩:=h i hi';exact⟨g,off,e,hg,λj hj=>by rw [hc j hj,List.getElem_take]⟩
theorem GR.At.drop {α:Type} {en:α->List Value} {sz g0:Nat} {w:World} {l:List α} (h:GR.At en sz w (some ⟨g0,0,none⟩) l) (k:Nat):GR.At en sz w (some ⟨g0,k*sz,none⟩) (l.drop k):=λi hi=>by
 have hi':k+i < l.length:=by rw [aFA] at hi;omega
 obtain⟨g,off,e,hg,hc⟩:=h (k+i) hi';cases e
 exact⟨g0,k*sz,rfl,hg,λj hj=>by rw [List.getElem_drop,<-hc j hj,aGC];congr 2;omega⟩
theorem mO {w:World} {g g' i:Nat} {o:Obj} (v:Value) (hne:g'≠g) (h:w.heap[g']?=some o):(w.setCell ⟨g,i,none⟩ v).heap[g']?=some o:=(aFe _ _ _ _ hne).trans h
def PD (gp:Nat) (pu:List Pu) (lo:Nat) (W:World) (pa:Option Addr) (pc:Nat) (PL:List Pu):Prop:=LO 155 fA 4 lo W pa pc PL\/pa=some ⟨gp,0,none⟩/\PL=pu
theorem PD.keeps {gp lo pc:Nat} {pu PL:List Pu} {W W':World} {pa:Option Addr} {F:List Nat} (h:PD gp pu lo W pa pc PL) (hk:aA F W W') (hF:∀x∈F,x < lo):PD gp pu lo W' pa pc PL:=h.elim (λh=> .inl (h.keeps hk hF)) .inr
theorem PD.below {gp lo pc:Nat} {pu PL:List Pu} {W W':World} {pa:Option Addr} (h:PD gp pu lo W pa pc PL) (hb:aH W W'):PD gp pu lo W' pa pc PL:=h.elim (λh=> .inl (h.below hb)) .inr
theorem Gt {w:World} {g:Nat} {cs:Array Value} {t:TypeId} (h:w.heap[g]?=some (.cells cs t (0,0))):w.rangeAt g 0 cs.toList:=λj v hv=>by
 rw [aFE,aE1 w g j _ t (0,0) h];simpa using hv
theorem Bz (n:Nd) (a_k rU jm jc jy:Option Addr) (dH fQ eu dJ dR:Nat) (G:aN) (c:Nat->Nat) (K no:Int) (k:ByteArray) (nn mK mF mT mI mL:Int) (mk:ByteArray) (mN:Int) (w:World) (B:Nat) (hB:B<=w.heap.size) (h9:∀x,6 < c x->c x=9) (hz:eG n 1048576) (hkz:k.size<=1048576) (hP:∃g,rU=some ⟨g,0,none⟩) (yX:n.pu.length<=fQ) (hR:∃g,jy=some ⟨g,0,none⟩) (hRc:n.reqs.length<=dR) (hok:iw n=true) (hs:¬no<=n.old) (hf:oU n.reqs no=false) (RL PL:List Pu) (ok:Bool) (st:Int) (hu:dB n.pu k 0 (-1) 1 nn=(RL,ok)) (hPL:(if ok=true then RL else n.pu)=PL) (hst:(if ok=true then 0 else 1)=st) (h:NQ w B n (⟨a_k,rU,jm,jc,jy,dH,fQ,eu,dJ,dR⟩:bq) G c):Calls prog 128 #[gU n (⟨a_k,rU,jm,jc,jy,dH,fQ,eu,dJ,dR⟩:bq),.agg (bV K no k nn mK mF mT mI mL mk mN)] w (je w B c (rW (setPu n PL) ⟨no,k,nn,st⟩,st)):=by
 obtain⟨gp,hgp⟩:=hP;obtain⟨gr,hgr⟩:=hR;subst hgp;subst hgr;have Sg:=Hq (λW (ha:aG W (some ⟨gp,0,none⟩) n.pu)=>ZH gp 0 fQ n.pu k nn W (aEU hz.p Aaa) yX hz.pk hkz ha);unfold jd at Sg;rw [hu] at Sg;have hp:=iY hok;have OD:=Hq (λW1 (ha:gB W1 (some ⟨gr,0,none⟩) n.reqs)=>BD n (⟨a_k,(some ⟨gp,0,none⟩),jm,jc,(some ⟨gr,0,none⟩),dH,fQ,eu,dJ,dR⟩:bq) no W1 Aaa hp.1 ha);rw [show tZ n.reqs no= -1 by unfold tZ;rw [hf];rfl] at OD;have Ik:=Hq hp.1;have aD5:=hp.2.1;clear hp hok hf hu hkz hz yX;open as4 in exact aaE
theorem ZA (n:Nd) (A:bq) (G:aN) (c:Nat->Nat) (K no:Int) (k:ByteArray) (nn mK mF mT mI mL:Int) (mk:ByteArray) (mN:Int) (w:World) (B:Nat) (hB:B<=w.heap.size) (h9:∀x,6 < c x->c x=9)
 (hz:eG n 1048576) (hkz:k.size<=1048576) (hP:∃g,A.p=some ⟨g,0,none⟩) (yX:n.pu.length<=A.cp) (hR:∃g,A.r=some ⟨g,0,none⟩) (hRc:n.reqs.length<=A.cr) (hok:iw n=true) (h:NQ w B n A G c):
 Calls prog 128 #[gU n A,.agg (bV K no k nn mK mF mT mI mL mk mN)] w (je w B c (fT n no k nn)):=by
 by_cases hs:no<=n.old
 .rw [show fT n no k nn=(n,2) from aFc hs];exact Jl n A G c K no k nn mK mF mT mI mL mk mN w B hB h9 hs h
 cases hf:oU n.reqs no
 .cases hu:dB n.pu k 0 (-1) 1 nn with
  |mk RL ok=>
   obtain⟨ak,ap,ao,as',ar,ck,cp,co,cs,cr⟩:=A;cases ok
   .have hk:=JZ (l:=n.pu) (key:=k) (dm:=0) (df:= -1) (ds:=1) (n:=nn) (by rw [hu]);rw [hu] at hk;dsimp only at hk
    rw [show fT n no k nn=(rW n ⟨no,k,nn,1⟩,1) by
     unfold fT
     rw [aE2 hs,hf,hu]
     simp only[hk]
     rfl]
    exact Bz n ak ap ao as' ar ck cp co cs cr G c K no k nn mK mF mT mI mL mk mN w B hB h9 hz hkz hP yX hR hRc hok hs hf RL n.pu false 1 hu rfl rfl h
   .rw [show fT n no k nn=(rW (setPu n RL) ⟨no,k,nn,0⟩,0) by
     unfold fT
     rw [aE2 hs,hf,hu]
     rfl]
    exact Bz n ak ap ao as' ar ck cp co cs cr G c K no k nn mK mF mT mI mL mk mN w B hB h9 hz hkz hP yX hR hRc hok hs hf RL RL true 0 hu rfl rfl h
 .obtain⟨hi,hno⟩:=(oV n.reqs no).1 hf;have hJ:tZ n.reqs no=(dZ n.reqs no:Nat):=by unfold tZ;rw [hf];rfl
  have hA:fT n no k nn=(n,if GD n.reqs[dZ n.reqs no] k nn=true then 0 else 1):=by
   unfold fT;rw [aE2 hs,aFc hf,aFs,aEV hi,Option.getD_some]
  rw [hA];clear hA;generalize hrq:n.reqs[dZ n.reqs no]=rq at *;obtain⟨ak,ap,ao,as',ar,ck,cp,co,cs,cr⟩:=A;unfold GD;by_cases h1:rq.s=0
  .have b1:(rq.s == 0)=true:=Aax
   cases h2:(rq.k.toList == k.toList)
   .rw [show(if (decide (rq.s=0)&&false&&decide (rq.n=nn))=true then(0:Int) else 1)=1 by simp];exact UN n ak ap ao as' ar ck cp co cs cr G c K no k nn mK mF mT mI mL mk mN w B hB h9 _ hi hok hs hJ rq hrq b1 h2 h
   .by_cases h3:rq.n=nn
    .rw [show(if (decide (rq.s=0)&&true&&decide (rq.n=nn))=true then(0:Int) else 1)=0 by simp[h1,h3]];exact UQ n ak ap ao as' ar ck cp co cs cr G c K no k nn mK mF mT mI mL mk mN w B hB h9 _ hi hok hs hJ rq hrq b1 h2 Acf h
    .rw [show(if (decide (rq.s=0)&&true&&decide (rq.n=nn))=true then(0:Int) else 1)=1 by simp[h3]];exact UO n ak ap ao as' ar ck cp co cs cr G c K no k nn mK mF mT mI mL mk mN w B hB h9 _ hi hok hs hJ rq hrq b1 h2 Acf h
  .rw [show(if (decide (rq.s=0)&&(rq.k.toList == k.toList)&&decide (rq.n=nn))=true then(0:Int) else 1)=1 by simp[h1]];exact UL n ak ap ao as' ar ck cp co cs cr G c K no k nn mK mF mT mI mL mk mN w B hB h9 _ hi hok hs hJ rq hrq Aax h
end Go.Proofs.YtbolgdleijjgfaaGreatDoor
