/- Parts. -/
import Derived.Test.YtfmdndhliinhpaaGreatDoorRa5
namespace Go.Proofs.YtfmdndhliinhpaaGreatDoor
namespace Mth
theorem toList_inj {a b:ByteArray} (h:a.toList=b.toList):a=b:=by
 rw [ByteArray.toList_eq,ByteArray.toList_eq] at h;exact ByteArray.ext (Array.toList_inj.1 h)
theorem nG (l:List Pu) (k:ByteArray):(aG l k).k=k:=by
 unfold aG;cases h:l.find? (fun p=>p.k.toList == k.toList) with
 |none=>rfl
 |some q=>
  have:=List.find?_some h
  exact toList_inj (by simpa using this)
theorem oq {l:List Pu} (hp:l.Pairwise F8) {q:Pu} (hq:q∈l):aG l q.k=q:=by
 unfold aG
 have:l.find? (fun p=>p.k.toList == q.k.toList)=some q:=by
  induction l with
  |nil=>simp at hq
  |cons x r ih=>
   rw [List.find?_cons]
   rcases List.mem_cons.1 hq with rfl|hq'
   ·simp
   ·have hx:x.k.toList < q.k.toList:=(List.pairwise_cons.1 hp).1 q hq'
    have hne:(x.k.toList == q.k.toList)=false:=by
     rw [beq_eq_false_iff_ne];intro e;rw [e] at hx;exact List.lt_irrefl _ hx
    rw [hne];exact ih (List.pairwise_cons.1 hp).2 hq'
 rw [this];rfl
theorem Gh {l:List Pu} {k:ByteArray} (h:∀q∈l,q.k≠k):aG l k=⟨k,0,0,0⟩:=by
 unfold aG
 have:l.find? (fun p=>p.k.toList == k.toList)=none:=by
  rw [List.find?_eq_none];intro q hq;simp only[beq_iff_eq];exact fun e=>h q hq (toList_inj e)
 rw [this];rfl
theorem acF {a b:ByteArray} (h:a.toList < b.toList):a≠b:=fun e=>by rw [e] at h;exact List.lt_irrefl _ h
theorem YI {l:List Pu} (hp:l.Pairwise F8) (p:Pu):(iC l p).map (fun q=>upd (aG l) p q.k)=iC l p:=by
 have:∀q∈iC l p,upd (aG l) p q.k=q:=by
  intro q hq;unfold iC at hq;unfold upd;rcases List.mem_append.1 hq with hq|hq
  ·rw [if_neg (acF (wE hq))];exact oq hp ((List.takeWhile_sublist _).mem hq)
  ·rcases List.mem_cons.1 hq with rfl|hq
   ·rw [if_pos rfl]
   ·rw [if_neg (Ne.symm (acF (GZ hp q hq)))];exact oq hp ((List.dropWhile_sublist _).mem (Ch l p.k q hq))
 exact(List.map_congr_left (g:=id) this).trans (List.map_id _)
def place (l:List Pu) (k:ByteArray):Nat:=(oW l k).length
theorem lq (l:List Pu) (k:ByteArray):place l k≤l.length:=by
 have h:=congrArg List.length (tJ l k);rw [List.length_append] at h;unfold place;omega
theorem head_take (l:List Pu) (k:ByteArray):oW l k=l.take (place l k):=by
 have h:=tJ l k;have:(oW l k++jM l k).take (place l k)=oW l k:=by unfold place;simp
 rw [h] at this;exact this.symm
theorem iU (l:List Pu) (k:ByteArray):jM l k=l.drop (place l k):=by
 have h:=tJ l k;have:(oW l k++jM l k).drop (place l k)=jM l k:=by unfold place;simp
 rw [h] at this;exact this.symm
def found (l:List Pu) (k:ByteArray):Bool:=match jM l k with
 |[]=>false
 |q::_=>q.k.toList == k.toList
theorem sK {l:List Pu} {p:Pu} (h:found l p.k=true):(iC l p).map (·.k)=l.map (·.k):=by
 have hl:=tJ l p.k;unfold found at h;unfold iC jF;cases hf:jM l p.k with
 |nil=>rw [hf] at h;cases h
 |cons q r=>
  rw [hf] at h hl
  dsimp only at h ⊢
  rw [if_pos h]
  rw [←hl]
  have e:q.k=p.k:=toList_inj (by simpa using h)
  simp[oW,e]
  rw [show List.takeWhile (fun q=>Op.bytesLess q.k.toList p.k.toList) l=oW l p.k from rfl,hl]
  rfl
theorem pQ {l:List Pu} {p:Pu} (h:found l p.k=true):(iC l p).length=l.length:=by
 have:=congrArg List.length (sK h);simpa using this
theorem uG {l:List Pu} {p:Pu} (h:found l p.k=false):iC l p=l.take (place l p.k)++p::l.drop (place l p.k):=by
 unfold iC;rw [head_take,←iU];congr 2
 unfold found at h;unfold jF;cases hf:jM l p.k with
 |nil=>rfl
 |cons q r=>
  rw [hf] at h
  dsimp only at h ⊢
  rw [h]
  rfl
theorem sQ {l:List Pu} {p:Pu} (h:found l p.k=false):(iC l p).length=l.length+1:=by
 rw [uG h];have:=lq l p.k;simp;omega
def rZ (l:List Pu) (k:ByteArray) (t:Nat):ByteArray:=(l[t]?).elim k (·.k)
theorem Uj {l:List Pu} (hp:l.Pairwise F8) (k:ByteArray):Lib.bsGo (fun t=>Op.bytesLess (rZ l k t).toList k.toList) l.length 0 l.length=place l k:=by
 refine Lib.bsGo_spec _ (place l k) ?_ ?_ _ _ _ (by omega) (Nat.zero_le _) (lq l k)
 ·intro t ht;have ht2:t < l.length:=Nat.lt_of_lt_of_le ht (lq l k)
  have hm:l[t]∈oW l k:=by
   rw [head_take];exact List.mem_take_iff_getElem.2 ⟨t,by omega,rfl⟩
  unfold rZ;rw [List.getElem?_eq_getElem ht2];exact(nM _ _).2 (wE hm)
 ·intro t ht;by_cases ht2:t < l.length
  ·unfold rZ;rw [List.getElem?_eq_getElem ht2];show Op.bytesLess l[t].k.toList k.toList=false
   rw [Bool.eq_false_iff];intro hlt;have hlt':=(nM _ _).1 hlt;have hp0:place l k < l.length:=by omega
   have hf:jM l k=l[place l k]::l.drop (place l k+1):=by rw [iU,List.drop_eq_getElem_cons hp0]
   have h1:=yC l k _ _ hf;rcases Nat.lt_or_ge (place l k) t with h|h
   ·have h2:l[place l k].k.toList < l[t].k.toList:=List.pairwise_iff_getElem.1 hp _ _ hp0 ht2 h;exact h1 (List.lt_trans h2 hlt')
   ·have e:t=place l k:=by omega
    subst e;exact h1 hlt'
  ·unfold rZ;rw [List.getElem?_eq_none (by omega)];show Op.bytesLess k.toList k.toList=false
   rw [Bool.eq_false_iff];intro h;exact List.lt_irrefl _ ((nM _ _).1 h)
theorem Ja (l:List Pu) (k:ByteArray):decide (place l k < l.length∧rZ l k (place l k)=k)=found l k:=by
 by_cases h:place l k < l.length
 ·have hf:jM l k=l[place l k]::l.drop (place l k+1):=by rw [iU,List.drop_eq_getElem_cons h]
  have hfo:found l k=(l[place l k].k.toList == k.toList):=by unfold found;rw [hf]
  have hka:rZ l k (place l k)=l[place l k].k:=by unfold rZ;rw [List.getElem?_eq_getElem h];rfl
  rw [hfo,Bool.eq_iff_iff,decide_eq_true_iff,beq_iff_eq,hka];exact⟨fun e=>by rw [e.2],fun e=>⟨h,toList_inj e⟩⟩
 ·have hf:jM l k=[]:=by rw [iU];exact List.drop_eq_nil_of_le (by omega)
  unfold found;rw [hf];exact decide_eq_false fun e=>h e.1
end Mth
open Go.RowKit
open Mth
namespace Mth
def dY (p:Pu) (dm df ds n:Int):Pu:=⟨p.k,p.m+dm*n,p.f+df*n,p.s+ds*n⟩
end Mth
open Go.RowKit Go.Maps
namespace Mth
def cK (l:List Pu) (key:ByteArray) (dm df ds n:Int):List Pu×Bool:=ow l (dY (aG l key) dm df ds n) n
theorem aer {l:List Pu} (hp:l.Pairwise F8) (p:Pu):∀q∈iC l p,upd (aG l) p q.k=q:=by
 intro q hq;obtain⟨i,hi,rfl⟩:=List.mem_iff_getElem.1 hq;have h:=YI hp p;have h2:=congrArg (fun x=>x[i]?) h;simp only[List.getElem?_map,List.getElem?_eq_getElem hi,Option.map_some,Option.some.injEq] at h2;exact h2
theorem put_mem {l:List Pu} {p q:Pu} (h:q∈iC l p):q=p∨q∈l:=by
 exact aqX
theorem Er {l:List Pu} {key:ByteArray} {dm df ds n:Int} (h:iB l=false):cK l key dm df ds n=(l,false):=by
 unfold cK ow;rw [h];rfl
theorem Fq {l:List Pu} {key:ByteArray} {dm df ds n:Int} (h:¬(1≤n∧n≤1000000000)):cK l key dm df ds n=(l,false):=by
 unfold cK ow;rw [decide_eq_false h];simp
theorem Fp {l:List Pu} {key:ByteArray} {dm df ds n:Int} (h:iB l=true) (hn:1≤n∧n≤1000000000):
 cK l key dm df ds n=if fT (dY (aG l key) dm df ds n)&&decide ((iC l (dY (aG l key) dm df ds n)).length≤20) then(iC l (dY (aG l key) dm df ds n),true) else(l,false):=by
 unfold cK ow;rw [VP _ h,h,decide_eq_true hn];rfl
theorem QN {l:List Pu} {key:ByteArray} {dm df ds n:Int} (h:keyOk key.data.toList=false):fT (dY (aG l key) dm df ds n)=false:=by
 unfold fT;have:(dY (aG l key) dm df ds n).k=key:=nG l key;rw [this,h];rfl
theorem vw {l:List Pu} {key:ByteArray} (h:iB l=true) (hk:keyOk key.data.toList=true):fT (aG l key)=true:=by
 obtain⟨h1,_,_⟩:=(jl l).1 h;unfold aG;cases hf:l.find? (fun p=>p.k.toList == key.toList) with
 |none=>simp[fT,nS,hk]
 |some q=>exact h1 q (List.mem_of_find?_eq_some hf)
theorem pY {d n:Int} (hd:d= -1∨d=0∨d=1) (hn:1≤n∧n≤1000000000): -1000000000≤d*n∧d*n≤1000000000:=by
 rcases hd with rfl|rfl|rfl<;>omega
end Mth
namespace Mth
structure iK where
 K:Int
 no:Int
 k:ByteArray
 n:Int
 m:Mg
def kN (m:Mg):Bool:=decide (m.K=0∧m.F=0∧m.T=0∧m.I=0∧m.L=0∧m.k.toList=[]∧m.N=0)
def cZ (o:iK):Bool:=
 if o.K=0∨o.K=3∨o.K=4 then keyOk o.k.data.toList&&eU o.n&&decide (o.no=0)&&kN o.m
 else if o.K=1 then keyOk o.k.data.toList&&eU o.n&&eU o.no&&kN o.m
 else if o.K=2 then decide (o.k.toList=[])&&decide (o.n=0)&&eU o.no&&kN o.m
 else if o.K=5 then decide (o.k.toList=[])&&decide (o.n=0)&&decide (o.no=0)&&kN o.m
 else if o.K=6 then decide (o.k.toList=[])&&decide (o.n=0)&&decide (o.no=0)&&dw o.m
 else false
end Mth
abbrev jY (o:iK):Value:= .agg #[.int .i64 o.K,.int .i64 o.no,.string o.k,.int .i64 o.n,.int .i64 o.m.K,.int .i64 o.m.F,.int .i64 o.m.T,.int .i64 o.m.I,.int .i64 o.m.L,.string o.m.k,.int .i64 o.m.N]
namespace Mth
theorem AV {α:Type} {p:α→Bool} {f:α→Int} {l:List α} (h:gH p (fun s t=>gU (f s) (f t)) l=true):l.Pairwise (fun s t=>f s < f t):=by
 have:=((ql (p:=p) (r:=fun s t=>gU (f s) (f t)) (fun a b c h1 h2=>lU _ _ _ h1 h2)).1 h).2;exact this.imp (fun h=>by simpa [gU] using h)
def setPu (n:Nd) (l:List Pu):Nd:=⟨n.id,n.par,n.kids,n.next,l,n.out,n.seen,n.old,n.reqs⟩
def setOut (n:Nd) (l:List jH):Nd:=⟨n.id,n.par,n.kids,n.next,n.pu,l,n.seen,n.old,n.reqs⟩
def bn (n:Nd) (l:List Sn):Nd:=⟨n.id,n.par,n.kids,n.next,n.pu,n.out,l,n.old,n.reqs⟩
def bZ (n:Nd) (l:List Rq):Nd:=⟨n.id,n.par,n.kids,n.next,n.pu,n.out,n.seen,n.old,l⟩
def iM (n:Nd) (x:Int):Nd:=⟨n.id,n.par,n.kids,n.next,n.pu,n.out,n.seen,x,n.reqs⟩
def YL (n:Nd) (x:Int):Nd:=⟨n.id,n.par,n.kids,x,n.pu,n.out,n.seen,n.old,n.reqs⟩
def mX (n:Nd) (key:ByteArray) (most:Int):Int:=if (aG n.pu key).f < most then(aG n.pu key).f else most
def J4 (n:Nd) (qc:Int):Bool:=decide (1≤qc∧n.out.length < 40∧n.next < 1000000000)
def oo (n:Nd) (dst:Int) (key:ByteArray) (qc:Int):Nd:=⟨n.id,n.par,n.kids,n.next+1,(cK n.pu key 0 (-1) 0 qc).1,n.out++[⟨n.next,dst,key,qc⟩],n.seen,n.old,n.reqs⟩
def eu (n:Nd) (dst:Int) (key:ByteArray) (most:Int):Nd×List Mg×Bool:=
 if J4 n (mX n key most)=true then(oo n dst key (mX n key most),[mP (oo n dst key (mX n key most)) ⟨n.next,dst,key,mX n key most⟩],true) else(n,[],false)
def bH (l:List Rq) (no:Int):Nat:=(l.takeWhile (fun r=>decide (r.no < no))).length
def jP (l:List Rq) (no:Int):Bool:=(l[bH l no]?).elim false (fun r=>decide (r.no=no))
def jN (l:List Rq) (q:Rq):List Rq:=l.take (bH l q.no)++q::l.drop (bH l q.no)
def iE (n:Nd) (q:Rq):Nd:=if 30 < (jN n.reqs q).length then bZ (iM n ((jN n.reqs q).headD default).no) (jN n.reqs q).tail else bZ n (jN n.reqs q)
def xw (r:Rq) (key:ByteArray) (a:Int):Bool:=decide (r.s=0)&&(r.k.toList == key.toList)&&decide (r.n=a)
def bV (n:Nd) (no:Int) (key:ByteArray) (a:Int):Nd×Int:=
 if no≤n.old then(n,2)
 else if jP n.reqs no=true then(n,if xw (n.reqs.getD (bH n.reqs no) default) key a=true then 0 else 1)
 else(iE (setPu n (cK n.pu key 0 (-1) 1 a).1) ⟨no,key,a,if (cK n.pu key 0 (-1) 1 a).2=true then 0 else 1⟩,if (cK n.pu key 0 (-1) 1 a).2=true then 0 else 1)
def iY (r:Rq):Rq:=⟨r.no,r.k,r.n,2⟩
def aI (n:Nd) (no:Int):Nd×Int:=
 if no≤n.old then(n,2)
 else if jP n.reqs no=false then(n,1)
 else if (n.reqs.getD (bH n.reqs no) default).s=1 then(n,1)
 else if (n.reqs.getD (bH n.reqs no) default).s=2 then(n,0)
 else if (cK n.pu (n.reqs.getD (bH n.reqs no) default).k 0 1 (-1) (n.reqs.getD (bH n.reqs no) default).n).2=true then
  (bZ (setPu n (cK n.pu (n.reqs.getD (bH n.reqs no) default).k 0 1 (-1) (n.reqs.getD (bH n.reqs no) default).n).1) (n.reqs.set (bH n.reqs no) (iY (n.reqs.getD (bH n.reqs no) default))),0)
 else(n,1)
def dU (l:List Sn) (f:Int):Nat:=l.findIdx (fun s=>decide (s.f=f))
def bY (s:Sn) (low:Int):Int:=if s.l < low then low else s.l
def aQ (s:Sn) (low:Int):List Int:=s.ids.filter (fun x=>decide (bY s low≤x))
def lT (s:Sn) (low i:Int):Bool:=decide (i < bY s low)||hasB (aQ s low) i
def jy (l:List Int) (x:Int):List Int:=l.takeWhile (fun y=>decide (y < x))++x::l.dropWhile (fun y=>decide (y < x))
def LZ (n:Nd) (m:Mg):Mg:=⟨2,n.id,m.F,m.I,0,ByteArray.empty,0⟩
def jE (n:Nd) (s:Sn) (m:Mg):Bool:=(cK n.pu m.k 0 1 0 m.N).2&&decide ((aQ s m.L).length < 40)
def takeN (n:Nd) (m:Mg):Nd×Bool:=
 if lT (n.seen.getD (dU n.seen m.F) default) m.L m.I=true then
  (bn n (n.seen.set (dU n.seen m.F) ⟨m.F,bY (n.seen.getD (dU n.seen m.F) default) m.L,aQ (n.seen.getD (dU n.seen m.F) default) m.L⟩),true)
 else if jE n (n.seen.getD (dU n.seen m.F) default) m=true then
  (bn (setPu n (cK n.pu m.k 0 1 0 m.N).1) (n.seen.set (dU n.seen m.F) ⟨m.F,bY (n.seen.getD (dU n.seen m.F) default) m.L,jy (aQ (n.seen.getD (dU n.seen m.F) default) m.L) m.I⟩),true)
 else(bn n (n.seen.set (dU n.seen m.F) ⟨m.F,bY (n.seen.getD (dU n.seen m.F) default) m.L,aQ (n.seen.getD (dU n.seen m.F) default) m.L⟩),false)
def gK (m:Mg) (s:jH):Bool:=decide (s.i=m.I∧s.t=m.F)
def eD (n:Nd) (m:Mg):Nd×List Mg×Int:=
 if m.K=1 then((takeN n m).1,if (takeN n m).2=true then[LZ n m] else[],if (takeN n m).2=true then 0 else 1)
 else if m.K=2 then(setOut n (n.out.filter (fun s=> !gK m s)),[],0)
 else if hasB n.kids m.F=true then((eu n m.F m.k m.N).1,(eu n m.F m.k m.N).2.1,0)
 else(n,[],1)
def EO (n:Nd) (o:iK):Mg:=⟨0,n.id,n.par,0,0,o.k,o.n⟩
def dX (n:Nd) (o:iK):Nd×List Mg×Int:=
 if o.K=0 then(if n.par= -1∧(cK n.pu o.k 1 1 0 o.n).2=true then(setPu n (cK n.pu o.k 1 1 0 o.n).1,[],0) else(n,[],1))
 else if o.K=1 then((bV n o.no o.k o.n).1,[],(bV n o.no o.k o.n).2)
 else if o.K=2 then((aI n o.no).1,[],(aI n o.no).2)
 else if o.K=3 then(if n.par= -1 then(n,[],1) else(n,[EO n o],0))
 else if o.K=4 then(if n.par= -1 then(n,[],1) else((eu n n.par o.k o.n).1,(eu n n.par o.k o.n).2.1,if (eu n n.par o.k o.n).2.2=true then 0 else 1))
 else if o.K=5 then(n,n.out.map (mP n),0)
 else eD n o.m
def mQ (n:Nd) (o:iK):Bool:= !decide (o.K=6)||(decide (o.m.T=n.id)&&dH n o.m.F)
def jJ (n:Nd) (o:iK):Nd×List Mg×Int:=if cZ o&&mQ n o then dX n o else(n,[],3)
def lK (n:Nd) (o:iK):Nd×List Mg×Int:=if dJ n then jJ n o else(n,[],3)
theorem Ak {n:Nd} {o:iK} (h:dJ n=false):lK n o=(n,[],3):=by unfold lK;rw [h];rfl
theorem rW {n:Nd} {o:iK} (h:dJ n=true):lK n o=jJ n o:=by unfold lK;rw [h];rfl
theorem bf {n:Nd} (h:dJ n=true):dx n=true∧iB n.pu=true∧mJ n=true∧eU n.next=true∧pJ n=true∧gF n=true:=by
 unfold dJ at h;simp only[Bool.and_eq_true] at h;exact⟨h.1.1.1.1.1,h.1.1.1.1.2,h.1.1.1.2,h.1.1.2,h.1.2,h.2⟩
theorem fF {n:Nd} (h:gF n=true):n.reqs.Pairwise (fun s t=>s.no < t.no)∧n.reqs.length≤30∧(∀q∈n.reqs,pR n q=true)∧0≤n.old∧n.old≤1000000000:=by
 unfold gF at h;simp only[Bool.and_eq_true,decide_eq_true_eq] at h;obtain⟨⟨h1,h2⟩,h3⟩:=h;have h1':0≤n.old∧n.old≤1000000000:=by simpa [nS] using h1
 exact⟨AV (f:=fun r:Rq=>r.no) h3,h2,vX h3,h1'.1,h1'.2⟩
theorem pO {n:Nd} (h:pJ n=true):n.out.Pairwise (fun s t=>s.i < t.i)∧n.out.length≤40∧(∀q∈n.out,rJ n q=true):=by
 unfold pJ at h;simp only[Bool.and_eq_true,decide_eq_true_eq] at h;exact⟨AV (f:=fun r:jH=>r.i) h.2,h.1,vX h.2⟩
theorem jm {n:Nd} {q:Rq} (h:pR n q=true):n.old+1≤q.no∧q.no≤1000000000∧keyOk q.k.data.toList=true∧eU q.n=true∧0≤q.s∧q.s≤2:=by
 unfold pR at h;simp only[Bool.and_eq_true,decide_eq_true_eq] at h;exact⟨h.1.1.1.1,h.1.1.1.2,h.1.1.2,h.1.2,h.2.1,h.2.2⟩
theorem qP (l:List Rq) (no:Int):bH l no≤l.length:=by
 unfold bH;exact(List.takeWhile_sublist _).length_le
theorem vC (l:List Rq) (no:Int):∀i (hi:i < l.length),i < bH l no→l[i].no < no:=by
 induction l with
 |nil=>intro i hi;simp at hi
 |cons x l ih=>
  intro i hi h
  by_cases hx:x.no < no
  ·cases i with
   |zero=>exact hx
   |succ i=>
    refine ih i (by simpa using hi) ?_
    unfold bH at h ⊢
    rw [List.takeWhile_cons_of_pos (by simpa using hx)] at h
    simpa using h
  ·unfold bH at h;rw [List.takeWhile_cons_of_neg (by simpa using hx)] at h;simp at h
theorem vB {l:List Rq} {no:Int} (hp:l.Pairwise (fun s t=>s.no < t.no)):∀i (hi:i < l.length),bH l no≤i→no≤l[i].no:=by
 induction l with
 |nil=>intro i hi;simp at hi
 |cons x l ih=>
  intro i hi h
  have hp':=List.pairwise_cons.1 hp
  by_cases hx:x.no < no
  ·unfold bH at h;rw [List.takeWhile_cons_of_pos (by simpa using hx)] at h;simp only[List.length_cons] at h;cases i with
   |zero=>omega
   |succ i=>exact ih hp'.2 i (by simpa using hi) (by unfold bH;omega)
  ·cases i with
   |zero=>show no≤x.no;omega
   |succ i=>
    have hi':i < l.length:=by simpa using hi
    have:=hp'.1 l[i] (List.getElem_mem hi')
    show no≤l[i].no
    omega
theorem Gl {l:List Rq} {no:Int} (hp:l.Pairwise (fun s t=>s.no < t.no)) {i:Nat} (hi:i≤l.length) (h1:∀j (hj:j < l.length),j < i→l[j].no < no) (h2:∀j (hj:j < l.length),i≤j→no≤l[j].no):bH l no=i:=by
 have hle:=qP l no;rcases Nat.lt_trichotomy (bH l no) i with h|h|h
 ·have a:=h1 (bH l no) (by omega) h;have b:=vB (no:=no) hp (bH l no) (by omega) (Nat.le_refl _);omega
 ·exact h
 ·have a:=h2 i (by omega) (Nat.le_refl _);have b:=vC l no i (by omega) h;omega
theorem lu (l:List Rq) (no:Int):jP l no=true↔∃h:bH l no < l.length,l[bH l no].no=no:=by
 unfold jP;by_cases h:bH l no < l.length
 ·rw [List.getElem?_eq_getElem h];simp[h]
 ·rw [List.getElem?_eq_none (by omega)];simp[h]
theorem wZ {l:List Rq} {no:Int} (hp:l.Pairwise (fun s t=>s.no < t.no)) {i:Nat} (hi:i < l.length) (h:l[i].no=no):bH l no=i∧jP l no=true:=by
 have e:bH l no=i:=by
  refine Gl hp (by omega) (fun j hj hlt=>?_) (fun j hj hle=>?_)
  ·have:=List.pairwise_iff_getElem.1 hp j i hj hi hlt;omega
  ·rcases Nat.lt_or_ge i j with hlt|hge
   ·have:=List.pairwise_iff_getElem.1 hp i j hi hj hlt;omega
   ·have e:j=i:=by omega
    subst e;omega
 refine⟨e,(lu l no).2 ⟨by omega,?_⟩⟩;subst h;simp[e]
theorem EG {l:List Rq} {no:Int} (h:∀q∈l,q.no≠no):jP l no=false:=by
 rw [Bool.eq_false_iff];intro hf;obtain⟨hi,e⟩:=(lu l no).1 hf;exact h _ (List.getElem_mem hi) e
theorem YH {l:List Pu} {key:ByteArray} {a:Int} (h:iB l=true) (hk:keyOk key.data.toList=true) (h1:1≤a) (h2:a≤(aG l key).f) (h3:a≤1000000000):(cK l key 0 (-1) 0 a).2=true:=by
 rw [Fp h ⟨h1,h3⟩];have hp:=vw h hk;have hk':=nG l key
 have hfd:found l key=true:=by
  cases hf:found l key with
  |true=>rfl
  |false=>
   exfalso
   obtain⟨_,hpw,_⟩:=(jl l).1 h
   have:aG l key=⟨key,0,0,0⟩:=by
    refine Gh (fun q hq e=>?_);have hq2:=oq hpw hq;rw [e] at hq2;have hx:=Ja l key;rw [hf] at hx;have hx:=of_decide_eq_false hx;obtain⟨i,hi,rfl⟩:=List.mem_iff_getElem.1 hq;apply hx
    have hle:=lq l key;by_cases hpl:place l key < l.length
    ·refine⟨hpl,?_⟩;have hnl:=yC l key l[place l key] (l.drop (place l key+1)) (by rw [iU,List.drop_eq_getElem_cons hpl]);have hka:rZ l key (place l key)=l[place l key].k:=by unfold rZ;rw [List.getElem?_eq_getElem hpl];rfl
     rw [hka];rcases Nat.lt_trichotomy (place l key) i with hlt|heq|hgt
     ·have:=List.pairwise_iff_getElem.1 hpw _ _ hpl hi hlt;have h4:l[place l key].k.toList < l[i].k.toList:=this;rw [e] at h4;exact absurd h4 hnl
     ·subst heq;exact e
     ·exact aqY
    ·exact aqY
   rw [this] at h2
   dsimp only at h2
   omega
 have hlen:(iC l (dY (aG l key) 0 (-1) 0 a)).length≤20:=by
  have e:(dY (aG l key) 0 (-1) 0 a).k=key:=hk';rw [pQ (by rw [e];exact hfd)];exact((jl l).1 h).2.2
 have hok:fT (dY (aG l key) 0 (-1) 0 a)=true:=by
  unfold fT nS at hp ⊢;unfold dY;simp only[Bool.and_eq_true,decide_eq_true_eq] at hp ⊢;refine⟨⟨⟨⟨hp.1.1.1.1,?_⟩,?_⟩,?_⟩,?_⟩<;>omega
 rw [hok,decide_eq_true hlen];rfl
end Mth
end Go.Proofs.YtfmdndhliinhpaaGreatDoor
