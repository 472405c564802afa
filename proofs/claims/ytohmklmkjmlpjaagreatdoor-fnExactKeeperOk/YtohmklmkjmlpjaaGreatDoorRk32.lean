/- Parts. -/
import Derived.Test.YtohmklmkjmlpjaaGreatDoorRk31
namespace Go.Proofs.YtohmklmkjmlpjaaGreatDoor
open Go.Proofs.Tryz
set_option maxHeartbeats 8000000
set_option maxRecDepth 100000
open Go.RowKit
open Mth
variable (n:Nd) (a_k jl dW eH gH:Option Addr) (aK bJ aQ aL aU:Nat) (G:aY) (c:Nat->Nat) (K no:Int) (k:ByteArray) (nn mK mF mT mI mL:Int) (mk:ByteArray) (mN:Int) (w:World) (B:Nat) {α:Type} {en:α->List Value} {sz cp x:Nat} {l:List α} {a:Option Addr} {W W':World} {e:TypeId} {F:List Nat}
def yY {α:Type} (en:α->List Value) (sz lo:Nat) (W:World) (a:Option Addr) (l:List α):Prop:=GR.At en sz W a l/\∀g off,a=some ⟨g,off,none⟩->lo<=g
theorem yY.keeps {α:Type} {en:α->List Value} {sz lo:Nat} {W W':World} {a:Option Addr} {l:List α} {F:List Nat} (h:yY en sz lo W a l) (hk:aC F W W') (hF:∀x∈F,x < lo):yY en sz lo W' a l:=
 ⟨λi hi=>by
  obtain⟨g,off,e,hg,hc⟩:=h.1 i hi
  have hlo:=h.2 g off e
  have hb:=hk.block g hg (λhm=>by have:=hF g hm;omega)
  exact⟨g,off,e,Nat.lt_of_lt_of_le hg hk.size,λj hj=>(World.cell?_of_block (w:=W) hb).trans (hc j hj)⟩,h.2⟩
theorem yY.below {α:Type} {en:α->List Value} {sz lo:Nat} {W W':World} {a:Option Addr} {l:List α} (h:yY en sz lo W a l) (hb:aI W W'):yY en sz lo W' a l:=⟨GR.At.below h.1 hb,h.2⟩
theorem yY.out {α:Type} {en:α->List Value} {sz lo:Nat} {w W' W'':World} {a:Option Addr} {l:List α} {c:Nat->Nat} (h:yY en sz lo W' a l) (hlo:w.heap.size<=lo) (ho:Out c w W' W''):GR.At en sz W'' a l:=by
 obtain⟨F,hk,hF⟩:=ho;exact(h.keeps hk (λx hx=>by have:=(hF x hx).1;omega)).1
theorem yY.own {α:Type} {en:α->List Value} {sz lo:Nat} {W:World} {e:TypeId} {a:Option Addr} {cp:Nat} {l:List α} (hs:∀x,(en x).length=sz) (h:W.ownsRow lo e sz (.slice a l.length cp) l.length (GR.flat en l)):yY en sz lo W a l:=by
 obtain⟨a',c',hv,hat⟩:=GR.own_at hs h;simp only[Value.slice.injEq] at hv;obtain⟨rfl,_,_⟩:=hv;refine⟨hat,λg off e'=>?_⟩;subst e';exact(h.lt g rfl).1
def LO {α:Type} (e:TypeId) (en:α->List Value) (sz lo:Nat) (W:World) (a:Option Addr) (cp:Nat) (l:List α):Prop:=W.ownsRow lo e sz (.slice a l.length cp) l.length (GR.flat en l)
theorem LO.own {α:Type} {e:TypeId} {en:α->List Value} {sz lo:Nat} {W:World} {a:Option Addr} {cp:Nat} {l:List α} (h:W.ownsRow lo e sz (.slice a l.length cp) l.length (GR.flat en l)):LO e en sz lo W a cp l:=h
theorem LO.lies {α:Type} {e:TypeId} {en:α->List Value} {sz lo:Nat} {W:World} {a:Option Addr} {cp:Nat} {l:List α} (h:LO e en sz lo W a cp l) (hs:∀x,(en x).length=sz):yY en sz lo W a l:=yY.own hs h
theorem LO.keeps {α:Type} {e:TypeId} {en:α->List Value} {sz lo:Nat} {W W':World} {a:Option Addr} {cp:Nat} {l:List α} {F:List Nat} (h:LO e en sz lo W a cp l) (hk:aC F W W') (hF:∀x∈F,x < lo):LO e en sz lo W' a cp l:=dM h hk hF
theorem LO.below {α:Type} {e:TypeId} {en:α->List Value} {sz lo:Nat} {W W':World} {a:Option Addr} {cp:Nat} {l:List α} (h:LO e en sz lo W a cp l) (hb:aI W W'):LO e en sz lo W' a cp l:=GR.own_below h hb
theorem LO.lower {α:Type} {e:TypeId} {en:α->List Value} {sz lo lo':Nat} {W:World} {a:Option Addr} {cp:Nat} {l:List α} (h:LO e en sz lo W a cp l) (hl:lo'<=lo):LO e en sz lo' W a cp l:=GR.own_lower h hl
theorem LO.out {α:Type} {e:TypeId} {en:α->List Value} {sz lo:Nat} {w W' W'':World} {a:Option Addr} {cp:Nat} {l:List α} {c:Nat->Nat} (h:LO e en sz lo W' a cp l) (hlo:w.heap.size<=lo) (ho:Out c w W' W''):LO e en sz lo W'' a cp l:=by
 obtain⟨F,hk,hF⟩:=ho;exact h.keeps hk (λx hx=>by have:=(hF x hx).1;omega)
theorem LO.lo {α:Type} {e:TypeId} {en:α->List Value} {sz lo:Nat} {W:World} {a:Option Addr} {cp x:Nat} {l:List α} (h:LO e en sz lo W a cp l) (hx:(Value.slice a l.length cp).ownBlock=some x):lo<=x:=qb h hx
theorem LO.ne {α β:Type} {e e':TypeId} {en:α->List Value} {en':β->List Value} {sz sz' lo lo':Nat} {W:World} {a a':Option Addr} {cp cp' x:Nat} {l:List α} {l':List β} (h:LO e en sz lo W a cp l) (h':LO e' en' sz' lo' W a' cp' l') (hne:e≠e') (hx:(Value.slice a l.length cp).ownBlock=some x):(Value.slice a' l'.length cp').ownBlock≠some x:=λhx'=>by
 rcases h.2 with⟨hv,_⟩|⟨g,cap,cur,hv,_,hgg,_⟩
 .rw [hv] at hx;simp[Value.ownBlock] at hx
 .rcases h'.2 with⟨hv',_⟩|⟨g',cap',cur',hv',_,aly,_⟩
  .rw [hv'] at hx';simp[Value.ownBlock] at hx'
  .rw [hv] at hx;rw [hv'] at hx';have e1:g=x:=Abp
   have e2:g'=x:=by simpa [Value.ownBlock] using hx'
   rw [e1] at hgg;rw [e2,hgg] at aly;simp only[Option.some.injEq,Obj.cells.injEq] at aly;exact hne aly.2.1
theorem GR.At.take {α:Type} {en:α->List Value} {sz:Nat} {w:World} {a:Option Addr} {l:List α} (h:GR.At en sz w a l) (k:Nat):GR.At en sz w a (l.take k):=λi hi=>by
 have hi':i < l.length:=by rw [List.length_take] at hi;omega
 obtain⟨g,off,e,hg,hc⟩:=h i hi';exact⟨g,off,e,hg,λj hj=>by rw [hc j hj,List.getElem_take]⟩
theorem GR.At.drop {α:Type} {en:α->List Value} {sz g0:Nat} {w:World} {l:List α} (h:GR.At en sz w (some ⟨g0,0,none⟩) l) (k:Nat):GR.At en sz w (some ⟨g0,k*sz,none⟩) (l.drop k):=λi hi=>by
 have hi':k+i < l.length:=by rw [List.length_drop] at hi;omega
 obtain⟨g,off,e,hg,hc⟩:=h (k+i) hi';cases e
 exact⟨g0,k*sz,rfl,hg,λj hj=>by rw [List.getElem_drop,<-hc j hj,Nat.add_mul];congr 2;omega⟩
theorem gU {w:World} {g g' i:Nat} {o:Obj} (v:Value) (hne:g'≠g) (h:w.heap[g']?=some o):(w.setCell ⟨g,i,none⟩ v).heap[g']?=some o:=(Below.heap_setCell _ _ _ _ hne).trans h
theorem Ae (hB:B<=w.heap.size) (h9:∀x,6 < c x->c x=9) (hz:eX n 1048576) (hkz:k.size<=1048576) (hP:∃g,jl=some ⟨g,0,none⟩) (uJ:n.pu.length<=bJ) (hR:∃g,gH=some ⟨g,0,none⟩) (hRc:n.reqs.length<=aU) (hok:gX n=true) (hs:¬no<=n.old) (hf:nC n.reqs no=false) (RL:List Pu) (hu:dJ n.pu k 0 (-1) 1 nn=(RL,true)) (h:NQ w B n (⟨a_k,jl,dW,eH,gH,aK,bJ,aQ,aL,aU⟩:bV) G c):Calls prog 107 #[fQ n (⟨a_k,jl,dW,eH,gH,aK,bJ,aQ,aL,aU⟩:bV),.agg (bY K no k nn mK mF mT mI mL mk mN)] w (iF w B c (lY (setPu n RL) ⟨no,k,nn,0⟩,0)):=by
 open aqW in exact aAE
theorem yH (hB:B<=w.heap.size) (h9:∀x,6 < c x->c x=9) (hz:eX n 1048576) (hkz:k.size<=1048576) (hP:∃g,jl=some ⟨g,0,none⟩) (uJ:n.pu.length<=bJ) (hR:∃g,gH=some ⟨g,0,none⟩) (hRc:n.reqs.length<=aU) (hok:gX n=true) (hs:¬no<=n.old) (hf:nC n.reqs no=false) (RL:List Pu) (hu:dJ n.pu k 0 (-1) 1 nn=(RL,false)) (h:NQ w B n (⟨a_k,jl,dW,eH,gH,aK,bJ,aQ,aL,aU⟩:bV) G c):Calls prog 107 #[fQ n (⟨a_k,jl,dW,eH,gH,aK,bJ,aQ,aL,aU⟩:bV),.agg (bY K no k nn mK mF mT mI mL mk mN)] w (iF w B c (lY n ⟨no,k,nn,1⟩,1)):=by
 open aqV in exact aAE
theorem YH (n:Nd) (A:bV) (G:aY) (c:Nat->Nat) (K no:Int) (k:ByteArray) (nn mK mF mT mI mL:Int) (mk:ByteArray) (mN:Int) (w:World) (B:Nat) (hB:B<=w.heap.size) (h9:∀x,6 < c x->c x=9) (hz:eX n 1048576) (hkz:k.size<=1048576) (hP:∃g,A.p=some ⟨g,0,none⟩) (uJ:n.pu.length<=A.cp) (hR:∃g,A.r=some ⟨g,0,none⟩) (hRc:n.reqs.length<=A.cr) (hok:gX n=true) (h:NQ w B n A G c):
 Calls prog 107 #[fQ n A,.agg (bY K no k nn mK mF mT mI mL mk mN)] w (iF w B c (fU n no k nn)):=by
 by_cases hs:no<=n.old
 .rw [show fU n no k nn=(n,2) from if_pos hs];exact Hu n A G c K no k nn mK mF mT mI mL mk mN w B hB h9 hs h
 cases hf:nC n.reqs no
 .cases hu:dJ n.pu k 0 (-1) 1 nn with
  |mk RL ok=>
   obtain⟨ak,ap,ao,as',ar,ck,cp,co,cs,cr⟩:=A;cases ok
   .have hk:=Jg (l:=n.pu) (key:=k) (dm:=0) (df:= -1) (ds:=1) (n:=nn) (by rw [hu]);rw [hu] at hk;dsimp only at hk
    rw [show fU n no k nn=(lY n ⟨no,k,nn,1⟩,1) by
     unfold fU
     rw [if_neg hs,hf,hu]
     simp only[hk]
     rfl]
    exact yH n ak ap ao as' ar ck cp co cs cr G c K no k nn mK mF mT mI mL mk mN w B hB h9 hz hkz hP uJ hR hRc hok hs hf RL hu h
   .rw [show fU n no k nn=(lY (setPu n RL) ⟨no,k,nn,0⟩,0) by
     unfold fU
     rw [if_neg hs,hf,hu]
     rfl]
    exact Ae n ak ap ao as' ar ck cp co cs cr G c K no k nn mK mF mT mI mL mk mN w B hB h9 hz hkz hP uJ hR hRc hok hs hf RL hu h
 .obtain⟨hi,hno⟩:=(nT n.reqs no).1 hf;have hJ:rX n.reqs no=(dS n.reqs no:Nat):=by unfold rX;rw [hf];rfl
  have hA:fU n no k nn=(n,if FE n.reqs[dS n.reqs no] k nn=true then 0 else 1):=by
   unfold fU;rw [if_neg hs,if_pos hf,List.getD_eq_getElem?_getD,List.getElem?_eq_getElem hi,Option.getD_some]
  rw [hA];clear hA;generalize hrq:n.reqs[dS n.reqs no]=rq at *;obtain⟨ak,ap,ao,as',ar,ck,cp,co,cs,cr⟩:=A;unfold FE;by_cases h1:rq.s=0
  .have b1:(rq.s == 0)=true:=Aaq
   cases h2:(rq.k.toList == k.toList)
   .rw [show(if (decide (rq.s=0)&&false&&decide (rq.n=nn))=true then(0:Int) else 1)=1 by simp];exact Ui n ak ap ao as' ar ck cp co cs cr G c K no k nn mK mF mT mI mL mk mN w B hB h9 _ hi hok hs hJ rq hrq b1 h2 h
   .by_cases h3:rq.n=nn
    .rw [show(if (decide (rq.s=0)&&true&&decide (rq.n=nn))=true then(0:Int) else 1)=0 by simp[h1,h3]];exact Uk n ak ap ao as' ar ck cp co cs cr G c K no k nn mK mF mT mI mL mk mN w B hB h9 _ hi hok hs hJ rq hrq b1 h2 (by simpa using h3) h
    .rw [show(if (decide (rq.s=0)&&true&&decide (rq.n=nn))=true then(0:Int) else 1)=1 by simp[h3]];exact Uj n ak ap ao as' ar ck cp co cs cr G c K no k nn mK mF mT mI mL mk mN w B hB h9 _ hi hok hs hJ rq hrq b1 h2 (by simpa using h3) h
  .rw [show(if (decide (rq.s=0)&&(rq.k.toList == k.toList)&&decide (rq.n=nn))=true then(0:Int) else 1)=1 by simp[h1]];exact Uh n ak ap ao as' ar ck cp co cs cr G c K no k nn mK mF mT mI mL mk mN w B hB h9 _ hi hok hs hJ rq hrq Aaq h
end Go.Proofs.YtohmklmkjmlpjaaGreatDoor
