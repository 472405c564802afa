/- Parts. -/
import Derived.Test.YtohmklmkjmlpjaaGreatDoorRk30
namespace Go.Proofs.YtohmklmkjmlpjaaGreatDoor
open Go.Proofs.Tryz
set_option maxHeartbeats 8000000
set_option maxRecDepth 100000
open Go.RowKit
open Mth
variable (n:Nd) (a_k jH fH gG gM:Option Addr) (aY dH bE aZ bg:Nat) (G:aX) (c:Nat->Nat) (K no:Int) (k:ByteArray) (nn mK mF mT mI mL:Int) (mk:ByteArray) (mN:Int) (w:World) (B:Nat) {α:Type} {en:α->List Value} {sz cp x g:Nat} {l:List α} {a pa:Option Addr} {W W':World} {e:TypeId} {F:List Nat} {pu PL:List Pu}
theorem Hy (n:Nd) (A:bQ) (G:aX) (c:Nat->Nat) (K no:Int) (k:ByteArray) (nn mK mF mT mI mL:Int) (mk:ByteArray) (mN:Int) (w:World) (B:Nat) (hB:B<=w.heap.size) (h9:∀x,6 < c x->c x=9) (hs:no<=n.old) (h:NQ w B n A G c):Calls prog 107 #[gB n A,.agg (bZ K no k nn mK mF mT mI mL mk mN)] w (iZ w B c (n,2)):=by
 open asC in exact ZO
theorem TY (hB:B<=w.heap.size) (h9:∀x,6 < c x->c x=9) (i:Nat) (hi:i < n.reqs.length) (hok:gX n=true) (hs:¬no<=n.old) (hJ:rV n.reqs no=i) (rq:Rq) (hrq:n.reqs[i]=rq) (h1:(rq.s == 0)=false) (h:NQ w B n (⟨a_k,jH,fH,gG,gM,aY,dH,bE,aZ,bg⟩:bQ) G c):Calls prog 107 #[gB n (⟨a_k,jH,fH,gG,gM,aY,dH,bE,aZ,bg⟩:bQ),.agg (bZ K no k nn mK mF mT mI mL mk mN)] w (iZ w B c (n,1)):=by
 open aAb in exact Yk4
theorem T9 (hB:B<=w.heap.size) (h9:∀x,6 < c x->c x=9) (i:Nat) (hi:i < n.reqs.length) (hok:gX n=true) (hs:¬no<=n.old) (hJ:rV n.reqs no=i) (rq:Rq) (hrq:n.reqs[i]=rq) (h1:(rq.s == 0)=true) (h2:(rq.k.toList == k.toList)=false) (h:NQ w B n (⟨a_k,jH,fH,gG,gM,aY,dH,bE,aZ,bg⟩:bQ) G c):Calls prog 107 #[gB n (⟨a_k,jH,fH,gG,gM,aY,dH,bE,aZ,bg⟩:bQ),.agg (bZ K no k nn mK mF mT mI mL mk mN)] w (iZ w B c (n,1)):=by
 open aAa in exact Yk4
theorem Ua (hB:B<=w.heap.size) (h9:∀x,6 < c x->c x=9) (i:Nat) (hi:i < n.reqs.length) (hok:gX n=true) (hs:¬no<=n.old) (hJ:rV n.reqs no=i) (rq:Rq) (hrq:n.reqs[i]=rq) (h1:(rq.s == 0)=true) (h2:(rq.k.toList == k.toList)=true) (h3:(rq.n == nn)=false) (h:NQ w B n (⟨a_k,jH,fH,gG,gM,aY,dH,bE,aZ,bg⟩:bQ) G c):Calls prog 107 #[gB n (⟨a_k,jH,fH,gG,gM,aY,dH,bE,aZ,bg⟩:bQ),.agg (bZ K no k nn mK mF mT mI mL mk mN)] w (iZ w B c (n,1)):=by
 open az9 in exact Yk4
theorem Ub (hB:B<=w.heap.size) (h9:∀x,6 < c x->c x=9) (i:Nat) (hi:i < n.reqs.length) (hok:gX n=true) (hs:¬no<=n.old) (hJ:rV n.reqs no=i) (rq:Rq) (hrq:n.reqs[i]=rq) (h1:(rq.s == 0)=true) (h2:(rq.k.toList == k.toList)=true) (h3:(rq.n == nn)=true) (h:NQ w B n (⟨a_k,jH,fH,gG,gM,aY,dH,bE,aZ,bg⟩:bQ) G c):Calls prog 107 #[gB n (⟨a_k,jH,fH,gG,gM,aY,dH,bE,aZ,bg⟩:bQ),.agg (bZ K no k nn mK mF mT mI mL mk mN)] w (iZ w B c (n,0)):=by
 open az8 in exact Yk4
def yT {α:Type} (en:α->List Value) (sz lo:Nat) (W:World) (a:Option Addr) (l:List α):Prop:=GR.At en sz W a l/\∀g off,a=some ⟨g,off,none⟩->lo<=g
theorem yT.keeps {α:Type} {en:α->List Value} {sz lo:Nat} {W W':World} {a:Option Addr} {l:List α} {F:List Nat} (h:yT en sz lo W a l) (hk:aC F W W') (hF:∀x∈F,x < lo):yT en sz lo W' a l:=
 ⟨λi hi=>by
  obtain⟨g,off,e,hg,hc⟩:=h.1 i hi
  have hlo:=h.2 g off e
  have hb:=hk.block g hg (λhm=>by have:=hF g hm;omega)
  exact⟨g,off,e,Nat.lt_of_lt_of_le hg hk.size,λj hj=>(World.cell?_of_block (w:=W) hb).trans (hc j hj)⟩,h.2⟩
theorem yT.below {α:Type} {en:α->List Value} {sz lo:Nat} {W W':World} {a:Option Addr} {l:List α} (h:yT en sz lo W a l) (hb:aI W W'):yT en sz lo W' a l:=⟨GR.At.below h.1 hb,h.2⟩
theorem yT.out {α:Type} {en:α->List Value} {sz lo:Nat} {w W' W'':World} {a:Option Addr} {l:List α} {c:Nat->Nat} (h:yT en sz lo W' a l) (hlo:w.heap.size<=lo) (ho:Out c w W' W''):GR.At en sz W'' a l:=by
 obtain⟨F,hk,hF⟩:=ho;exact(h.keeps hk (λx hx=>by have:=(hF x hx).1;omega)).1
theorem yT.own {α:Type} {en:α->List Value} {sz lo:Nat} {W:World} {e:TypeId} {a:Option Addr} {cp:Nat} {l:List α} (hs:∀x,(en x).length=sz) (h:W.ownsRow lo e sz (.slice a l.length cp) l.length (GR.flat en l)):yT en sz lo W a l:=by
 obtain⟨a',c',hv,hat⟩:=GR.own_at hs h;simp only[Value.slice.injEq] at hv;obtain⟨rfl,_,_⟩:=hv;refine⟨hat,λg off e'=>?_⟩;subst e';exact(h.lt g rfl).1
def LO {α:Type} (e:TypeId) (en:α->List Value) (sz lo:Nat) (W:World) (a:Option Addr) (cp:Nat) (l:List α):Prop:=W.ownsRow lo e sz (.slice a l.length cp) l.length (GR.flat en l)
theorem LO.own {α:Type} {e:TypeId} {en:α->List Value} {sz lo:Nat} {W:World} {a:Option Addr} {cp:Nat} {l:List α} (h:W.ownsRow lo e sz (.slice a l.length cp) l.length (GR.flat en l)):LO e en sz lo W a cp l:=h
theorem LO.lies {α:Type} {e:TypeId} {en:α->List Value} {sz lo:Nat} {W:World} {a:Option Addr} {cp:Nat} {l:List α} (h:LO e en sz lo W a cp l) (hs:∀x,(en x).length=sz):yT en sz lo W a l:=yT.own hs h
theorem LO.keeps {α:Type} {e:TypeId} {en:α->List Value} {sz lo:Nat} {W W':World} {a:Option Addr} {cp:Nat} {l:List α} {F:List Nat} (h:LO e en sz lo W a cp l) (hk:aC F W W') (hF:∀x∈F,x < lo):LO e en sz lo W' a cp l:=dQ h hk hF
theorem LO.below {α:Type} {e:TypeId} {en:α->List Value} {sz lo:Nat} {W W':World} {a:Option Addr} {cp:Nat} {l:List α} (h:LO e en sz lo W a cp l) (hb:aI W W'):LO e en sz lo W' a cp l:=GR.own_below h hb
theorem LO.lower {α:Type} {e:TypeId} {en:α->List Value} {sz lo lo':Nat} {W:World} {a:Option Addr} {cp:Nat} {l:List α} (h:LO e en sz lo W a cp l) (hl:lo'<=lo):LO e en sz lo' W a cp l:=GR.own_lower h hl
theorem LO.out {α:Type} {e:TypeId} {en:α->List Value} {sz lo:Nat} {w W' W'':World} {a:Option Addr} {cp:Nat} {l:List α} {c:Nat->Nat} (h:LO e en sz lo W' a cp l) (hlo:w.heap.size<=lo) (ho:Out c w W' W''):LO e en sz lo W'' a cp l:=by
 obtain⟨F,hk,hF⟩:=ho;exact h.keeps hk (λx hx=>by have:=(hF x hx).1;omega)
theorem LO.lo {α:Type} {e:TypeId} {en:α->List Value} {sz lo:Nat} {W:World} {a:Option Addr} {cp x:Nat} {l:List α} (h:LO e en sz lo W a cp l) (hx:(Value.slice a l.length cp).ownBlock=some x):lo<=x:=um h hx
theorem LO.ne {α β:Type} {e e':TypeId} {en:α->List Value} {en':β->List Value} {sz sz' lo lo':Nat} {W:World} {a a':Option Addr} {cp cp' x:Nat} {l:List α} {l':List β} (h:LO e en sz lo W a cp l) (h':LO e' en' sz' lo' W a' cp' l') (hne:e≠e') (hx:(Value.slice a l.length cp).ownBlock=some x):(Value.slice a' l'.length cp').ownBlock≠some x:=λhx'=>by
 rcases h.2 with⟨hv,_⟩|⟨g,cap,cur,hv,_,hgg,_⟩
 .rw [hv] at hx;simp[Value.ownBlock] at hx
 .rcases h'.2 with⟨hv',_⟩|⟨g',cap',cur',hv',_,ako,_⟩
  .rw [hv'] at hx';simp[Value.ownBlock] at hx'
  .rw [hv] at hx;rw [hv'] at hx';have e1:g=x:=Abm
   have e2:g'=x:=by simpa [Value.ownBlock] using hx'
   rw [e1] at hgg;rw [e2,hgg] at ako;simp only[Option.some.injEq,Obj.cells.injEq] at ako;exact hne ako.2.1
theorem GR.At.take {α:Type} {en:α->List Value} {sz:Nat} {w:World} {a:Option Addr} {l:List α} (h:GR.At en sz w a l) (k:Nat):GR.At en sz w a (l.take k):=λi hi=>by
 have hi':i < l.length:=by rw [List.length_take] at hi;omega
 obtain⟨g,off,e,hg,hc⟩:=h i hi';exact⟨g,off,e,hg,λj hj=>by rw [hc j hj,List.getElem_take]⟩
theorem GR.At.drop {α:Type} {en:α->List Value} {sz g0:Nat} {w:World} {l:List α} (h:GR.At en sz w (some ⟨g0,0,none⟩) l) (k:Nat):GR.At en sz w (some ⟨g0,k*sz,none⟩) (l.drop k):=λi hi=>by
 have hi':k+i < l.length:=by rw [List.length_drop] at hi;omega
 obtain⟨g,off,e,hg,hc⟩:=h (k+i) hi';cases e
 exact⟨g0,k*sz,rfl,hg,λj hj=>by rw [List.getElem_drop,<-hc j hj,Nat.add_mul];congr 2;omega⟩
theorem lS {w:World} {g' i:Nat} {o:Obj} (v:Value) (hne:g'≠g) (h:w.heap[g']?=some o):(w.setCell ⟨g,i,none⟩ v).heap[g']?=some o:=(Below.heap_setCell _ _ _ _ hne).trans h
def PD (gp:Nat) (pu:List Pu) (lo:Nat) (W:World) (pa:Option Addr) (pc:Nat) (PL:List Pu):Prop:=LO 108 gu 4 lo W pa pc PL\/pa=some ⟨gp,0,none⟩/\PL=pu
theorem PD.keeps {gp lo pc:Nat} (h:PD gp pu lo W pa pc PL) (hk:aC F W W') (hF:∀x∈F,x < lo):PD gp pu lo W' pa pc PL:=h.elim (λh=> .inl (h.keeps hk hF)) .inr
theorem PD.below {gp lo pc:Nat} (h:PD gp pu lo W pa pc PL) (hb:aI W W'):PD gp pu lo W' pa pc PL:=h.elim (λh=> .inl (h.below hb)) .inr
theorem Fh {w:World} {cs:Array Value} {t:TypeId} (h:w.heap[g]?=some (.cells cs t (0,0))):w.rangeAt g 0 cs.toList:=λj v hv=>by
 rw [Nat.zero_add,cell_of_row w g j _ t (0,0) h];simpa using hv
theorem zZ (hB:B<=w.heap.size) (h9:∀x,6 < c x->c x=9) (hz:eU n 1048576) (hkz:k.size<=1048576) (hP:∃g,jH=some ⟨g,0,none⟩) (wP:n.pu.length<=dH) (hR:∃g,gM=some ⟨g,0,none⟩) (hRc:n.reqs.length<=bg) (hok:gX n=true) (hs:¬no<=n.old) (hf:nN n.reqs no=false) (RL PL:List Pu) (ok:Bool) (st:Int) (hu:dJ n.pu k 0 (-1) 1 nn=(RL,ok)) (hPL:(if ok=true then RL else n.pu)=PL) (hst:(if ok=true then 0 else 1)=st) (h:NQ w B n (⟨a_k,jH,fH,gG,gM,aY,dH,bE,aZ,bg⟩:bQ) G c):Calls prog 107 #[gB n (⟨a_k,jH,fH,gG,gM,aY,dH,bE,aZ,bg⟩:bQ),.agg (bZ K no k nn mK mF mT mI mL mk mN)] w (iZ w B c (qH (setPu n PL) ⟨no,k,nn,st⟩,st)):=by
 obtain⟨gp,hgp⟩:=hP;obtain⟨gr,hgr⟩:=hR;subst hgp;subst hgr;have Rf:=Hq (λW (ha:aG W (some ⟨gp,0,none⟩) n.pu)=>Yh gp 0 dH n.pu k nn W (Nat.le_trans hz.p Aaa) wP hz.pk hkz ha);unfold iY at Rf;rw [hu] at Rf;have hp:=iX hok;have Nz:=Hq (λW1 (ha:fU W1 (some ⟨gr,0,none⟩) n.reqs)=>Ac n (⟨a_k,(some ⟨gp,0,none⟩),fH,gG,(some ⟨gr,0,none⟩),aY,dH,bE,aZ,bg⟩:bQ) no W1 Aaa hp.1 ha);rw [show rV n.reqs no= -1 by unfold rV;rw [hf];rfl] at Nz;have Gg:=Hq hp.1;have aDs:=hp.2.1;clear hp hok hf hu hkz hz wP;open asD in exact ZO
theorem Yd (n:Nd) (A:bQ) (G:aX) (c:Nat->Nat) (K no:Int) (k:ByteArray) (nn mK mF mT mI mL:Int) (mk:ByteArray) (mN:Int) (w:World) (B:Nat) (hB:B<=w.heap.size) (h9:∀x,6 < c x->c x=9) (hz:eU n 1048576) (hkz:k.size<=1048576) (hP:∃g,A.p=some ⟨g,0,none⟩) (wP:n.pu.length<=A.cp) (hR:∃g,A.r=some ⟨g,0,none⟩) (hRc:n.reqs.length<=A.cr) (hok:gX n=true) (h:NQ w B n A G c):
 Calls prog 107 #[gB n A,.agg (bZ K no k nn mK mF mT mI mL mk mN)] w (iZ w B c (fJ n no k nn)):=by
 by_cases hs:no<=n.old
 .rw [show fJ n no k nn=(n,2) from if_pos hs];exact Hy n A G c K no k nn mK mF mT mI mL mk mN w B hB h9 hs h
 cases hf:nN n.reqs no
 .cases hu:dJ n.pu k 0 (-1) 1 nn with
  |mk RL ok=>
   obtain⟨ak,ap,ao,as',ar,ck,cp,co,cs,cr⟩:=A;cases ok
   .have hk:=Ji (l:=n.pu) (key:=k) (dm:=0) (df:= -1) (ds:=1) (n:=nn) (by rw [hu]);rw [hu] at hk;dsimp only at hk
    rw [show fJ n no k nn=(qH n ⟨no,k,nn,1⟩,1) by
     unfold fJ
     rw [if_neg hs,hf,hu]
     simp only[hk]
     rfl]
    exact zZ n ak ap ao as' ar ck cp co cs cr G c K no k nn mK mF mT mI mL mk mN w B hB h9 hz hkz hP wP hR hRc hok hs hf RL n.pu false 1 hu rfl rfl h
   .rw [show fJ n no k nn=(qH (setPu n RL) ⟨no,k,nn,0⟩,0) by
     unfold fJ
     rw [if_neg hs,hf,hu]
     rfl]
    exact zZ n ak ap ao as' ar ck cp co cs cr G c K no k nn mK mF mT mI mL mk mN w B hB h9 hz hkz hP wP hR hRc hok hs hf RL RL true 0 hu rfl rfl h
 .obtain⟨hi,hno⟩:=(nO n.reqs no).1 hf;have hJ:rV n.reqs no=(dX n.reqs no:Nat):=by unfold rV;rw [hf];rfl
  have hA:fJ n no k nn=(n,if Fu n.reqs[dX n.reqs no] k nn=true then 0 else 1):=by
   unfold fJ;rw [if_neg hs,if_pos hf,List.getD_eq_getElem?_getD,List.getElem?_eq_getElem hi,Option.getD_some]
  rw [hA];clear hA;generalize hrq:n.reqs[dX n.reqs no]=rq at *;obtain⟨ak,ap,ao,as',ar,ck,cp,co,cs,cr⟩:=A;unfold Fu;by_cases h1:rq.s=0
  .have b1:(rq.s == 0)=true:=Aaw
   cases h2:(rq.k.toList == k.toList)
   .rw [show(if (decide (rq.s=0)&&false&&decide (rq.n=nn))=true then(0:Int) else 1)=1 by simp];exact T9 n ak ap ao as' ar ck cp co cs cr G c K no k nn mK mF mT mI mL mk mN w B hB h9 _ hi hok hs hJ rq hrq b1 h2 h
   .by_cases h3:rq.n=nn
    .rw [show(if (decide (rq.s=0)&&true&&decide (rq.n=nn))=true then(0:Int) else 1)=0 by simp[h1,h3]];exact Ub n ak ap ao as' ar ck cp co cs cr G c K no k nn mK mF mT mI mL mk mN w B hB h9 _ hi hok hs hJ rq hrq b1 h2 (by simpa using h3) h
    .rw [show(if (decide (rq.s=0)&&true&&decide (rq.n=nn))=true then(0:Int) else 1)=1 by simp[h3]];exact Ua n ak ap ao as' ar ck cp co cs cr G c K no k nn mK mF mT mI mL mk mN w B hB h9 _ hi hok hs hJ rq hrq b1 h2 (by simpa using h3) h
  .rw [show(if (decide (rq.s=0)&&(rq.k.toList == k.toList)&&decide (rq.n=nn))=true then(0:Int) else 1)=1 by simp[h1]];exact TY n ak ap ao as' ar ck cp co cs cr G c K no k nn mK mF mT mI mL mk mN w B hB h9 _ hi hok hs hJ rq hrq Aaw h
end Go.Proofs.YtohmklmkjmlpjaaGreatDoor
