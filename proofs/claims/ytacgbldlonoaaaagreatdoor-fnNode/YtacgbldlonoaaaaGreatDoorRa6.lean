/- Parts. -/
import Derived.Test.YtacgbldlonoaaaaGreatDoorRa5
namespace Go.Proofs.YtacgbldlonoaaaaGreatDoor
namespace Mth
theorem toList_inj {a b:ByteArray} (h:a.toList=b.toList):a=b:=by
 rw [ByteArray.toList_eq,ByteArray.toList_eq] at h;exact ByteArray.ext (Array.toList_inj.1 h)
theorem mh (l:List Pu) (k:ByteArray):(aF l k).k=k:=by
 unfold aF;cases h:l.find? (fun p=>p.k.toList == k.toList) with
 |none=>rfl
 |some q=>
  have:=List.find?_some h
  exact toList_inj (by simpa using this)
theorem nH {l:List Pu} (hp:l.Pairwise Ez) {q:Pu} (hq:q∈l):aF l q.k=q:=by
 unfold aF
 have:l.find? (fun p=>p.k.toList == q.k.toList)=some q:=by
  induction l with
  |nil=>simp at hq
  |cons x r ih=>
   rw [List.find?_cons]
   rcases List.mem_cons.1 hq with rfl|hq'
   ·simp
   ·have hx:x.k.toList < q.k.toList:=(List.pairwise_cons.1 hp).1 q hq'
    have hne:(x.k.toList == q.k.toList)=false:=by
     rw [beq_eq_false_iff_ne];intro e;rw [e] at hx;exact List.lt_irrefl _ hx
    rw [hne];exact ih (List.pairwise_cons.1 hp).2 hq'
 rw [this];rfl
theorem EG {l:List Pu} {k:ByteArray} (h:∀q∈l,q.k≠k):aF l k=⟨k,0,0,0⟩:=by
 unfold aF
 have:l.find? (fun p=>p.k.toList == k.toList)=none:=by
  rw [List.find?_eq_none];intro q hq;simp only[beq_iff_eq];exact fun e=>h q hq (toList_inj e)
 rw [this];rfl
theorem aad {a b:ByteArray} (h:a.toList < b.toList):a≠b:=fun e=>by rw [e] at h;exact List.lt_irrefl _ h
theorem VU {l:List Pu} (hp:l.Pairwise Ez) (p:Pu):(gV l p).map (fun q=>upd (aF l) p q.k)=gV l p:=by
 have:∀q∈gV l p,upd (aF l) p q.k=q:=by
  intro q hq;unfold gV at hq;unfold upd;rcases List.mem_append.1 hq with hq|hq
  ·rw [if_neg (aad (uY hq))];exact nH hp ((List.takeWhile_sublist _).mem hq)
  ·rcases List.mem_cons.1 hq with rfl|hq
   ·rw [if_pos rfl]
   ·rw [if_neg (Ne.symm (aad (Fh hp q hq)))];exact nH hp ((List.dropWhile_sublist _).mem (Av l p.k q hq))
 exact(List.map_congr_left (g:=id) this).trans (List.map_id _)
def place (l:List Pu) (k:ByteArray):Nat:=(nV l k).length
theorem jP (l:List Pu) (k:ByteArray):place l k≤l.length:=by
 have h:=congrArg List.length (rG l k);rw [List.length_append] at h;unfold place;omega
theorem head_take (l:List Pu) (k:ByteArray):nV l k=l.take (place l k):=by
 have h:=rG l k;have:(nV l k++jq l k).take (place l k)=nV l k:=by unfold place;simp
 rw [h] at this;exact this.symm
theorem iH (l:List Pu) (k:ByteArray):jq l k=l.drop (place l k):=by
 have h:=rG l k;have:(nV l k++jq l k).drop (place l k)=jq l k:=by unfold place;simp
 rw [h] at this;exact this.symm
def found (l:List Pu) (k:ByteArray):Bool:=match jq l k with
 |[]=>false
 |q::_=>q.k.toList == k.toList
theorem qV {l:List Pu} {p:Pu} (h:found l p.k=true):(gV l p).map (·.k)=l.map (·.k):=by
 have hl:=rG l p.k;unfold found at h;unfold gV jf;cases hf:jq l p.k with
 |nil=>rw [hf] at h;cases h
 |cons q r=>
  rw [hf] at h hl
  dsimp only at h ⊢
  rw [if_pos h]
  rw [←hl]
  have e:q.k=p.k:=toList_inj (by simpa using h)
  simp[nV,e]
  rw [show List.takeWhile (fun q=>Op.bytesLess q.k.toList p.k.toList) l=nV l p.k from rfl,hl]
  rfl
theorem oh {l:List Pu} {p:Pu} (h:found l p.k=true):(gV l p).length=l.length:=by
 have:=congrArg List.length (qV h);simpa using this
theorem sQ {l:List Pu} {p:Pu} (h:found l p.k=false):gV l p=l.take (place l p.k)++p::l.drop (place l p.k):=by
 unfold gV;rw [head_take,←iH];congr 2
 unfold found at h;unfold jf;cases hf:jq l p.k with
 |nil=>rfl
 |cons q r=>
  rw [hf] at h
  dsimp only at h ⊢
  rw [h]
  rfl
theorem qW {l:List Pu} {p:Pu} (h:found l p.k=false):(gV l p).length=l.length+1:=by
 rw [sQ h];have:=jP l p.k;simp;omega
def qM (l:List Pu) (k:ByteArray) (t:Nat):ByteArray:=(l[t]?).elim k (·.k)
theorem Q8 {l:List Pu} (hp:l.Pairwise Ez) (k:ByteArray):Lib.bsGo (fun t=>Op.bytesLess (qM l k t).toList k.toList) l.length 0 l.length=place l k:=by
 refine Lib.bsGo_spec _ (place l k) ?_ ?_ _ _ _ (by omega) (Nat.zero_le _) (jP l k)
 ·intro t ht;have ht2:t < l.length:=Nat.lt_of_lt_of_le ht (jP l k)
  have hm:l[t]∈nV l k:=by
   rw [head_take];exact List.mem_take_iff_getElem.2 ⟨t,by omega,rfl⟩
  unfold qM;rw [List.getElem?_eq_getElem ht2];exact(mH _ _).2 (uY hm)
 ·intro t ht;by_cases ht2:t < l.length
  ·unfold qM;rw [List.getElem?_eq_getElem ht2];show Op.bytesLess l[t].k.toList k.toList=false
   rw [Bool.eq_false_iff];intro hlt;have hlt':=(mH _ _).1 hlt;have hp0:place l k < l.length:=by omega
   have hf:jq l k=l[place l k]::l.drop (place l k+1):=by rw [iH,List.drop_eq_getElem_cons hp0]
   have h1:=wV l k _ _ hf;rcases Nat.lt_or_ge (place l k) t with h|h
   ·have h2:l[place l k].k.toList < l[t].k.toList:=List.pairwise_iff_getElem.1 hp _ _ hp0 ht2 h;exact h1 (List.lt_trans h2 hlt')
   ·have e:t=place l k:=by omega
    subst e;exact h1 hlt'
  ·unfold qM;rw [List.getElem?_eq_none (by omega)];show Op.bytesLess k.toList k.toList=false
   rw [Bool.eq_false_iff];intro h;exact List.lt_irrefl _ ((mH _ _).1 h)
theorem Gs (l:List Pu) (k:ByteArray):decide (place l k < l.length∧qM l k (place l k)=k)=found l k:=by
 by_cases h:place l k < l.length
 ·have hf:jq l k=l[place l k]::l.drop (place l k+1):=by rw [iH,List.drop_eq_getElem_cons h]
  have hfo:found l k=(l[place l k].k.toList == k.toList):=by unfold found;rw [hf]
  have hka:qM l k (place l k)=l[place l k].k:=by unfold qM;rw [List.getElem?_eq_getElem h];rfl
  rw [hfo,Bool.eq_iff_iff,decide_eq_true_iff,beq_iff_eq,hka];exact⟨fun e=>by rw [e.2],fun e=>⟨h,toList_inj e⟩⟩
 ·have hf:jq l k=[]:=by rw [iH];exact List.drop_eq_nil_of_le (by omega)
  unfold found;rw [hf];exact decide_eq_false fun e=>h e.1
end Mth
open Go.RowKit
open Mth
namespace Mth
def dR (p:Pu) (dm df ds n:Int):Pu:=⟨p.k,p.m+dm*n,p.f+df*n,p.s+ds*n⟩
end Mth
open Go.RowKit Go.Maps
namespace Mth
def bV (l:List Pu) (key:ByteArray) (dm df ds n:Int):List Pu×Bool:=nJ l (dR (aF l key) dm df ds n) n
theorem abN {l:List Pu} (hp:l.Pairwise Ez) (p:Pu):∀q∈gV l p,upd (aF l) p q.k=q:=by
 intro q hq;obtain⟨i,hi,rfl⟩:=List.mem_iff_getElem.1 hq;have h:=VU hp p;have h2:=congrArg (fun x=>x[i]?) h;simp only[List.getElem?_map,List.getElem?_eq_getElem hi,Option.map_some,Option.some.injEq] at h2;exact h2
theorem put_mem {l:List Pu} {p q:Pu} (h:q∈gV l p):q=p∨q∈l:=by
 exact am7
theorem CV {l:List Pu} {key:ByteArray} {dm df ds n:Int} (h:ig l=false):bV l key dm df ds n=(l,false):=by
 unfold bV nJ;rw [h];rfl
theorem D7 {l:List Pu} {key:ByteArray} {dm df ds n:Int} (h:¬(1≤n∧n≤1000000000)):bV l key dm df ds n=(l,false):=by
 unfold bV nJ;rw [decide_eq_false h];simp
theorem D6 {l:List Pu} {key:ByteArray} {dm df ds n:Int} (h:ig l=true) (hn:1≤n∧n≤1000000000):
 bV l key dm df ds n=if fH (dR (aF l key) dm df ds n)&&decide ((gV l (dR (aF l key) dm df ds n)).length≤20) then(gV l (dR (aF l key) dm df ds n),true) else(l,false):=by
 unfold bV nJ;rw [Tf _ h,h,decide_eq_true hn];rfl
theorem OL {l:List Pu} {key:ByteArray} {dm df ds n:Int} (h:keyOk key.data.toList=false):fH (dR (aF l key) dm df ds n)=false:=by
 unfold fH;have:(dR (aF l key) dm df ds n).k=key:=mh l key;rw [this,h];rfl
theorem uj {l:List Pu} {key:ByteArray} (h:ig l=true) (hk:keyOk key.data.toList=true):fH (aF l key)=true:=by
 obtain⟨h1,_,_⟩:=(iU l).1 h;unfold aF;cases hf:l.find? (fun p=>p.k.toList == key.toList) with
 |none=>simp[fH,mW,hk]
 |some q=>exact h1 q (List.mem_of_find?_eq_some hf)
theorem oF {d n:Int} (hd:d= -1∨d=0∨d=1) (hn:1≤n∧n≤1000000000): -1000000000≤d*n∧d*n≤1000000000:=by
 rcases hd with rfl|rfl|rfl<;>omega
end Mth
namespace Mth
structure jE where
 K:Int
 no:Int
 k:ByteArray
 n:Int
 m:Mg
def jV (m:Mg):Bool:=decide (m.K=0∧m.F=0∧m.T=0∧m.I=0∧m.L=0∧m.k.toList=[]∧m.N=0)
def bX (o:jE):Bool:=
 if o.K=0∨o.K=3∨o.K=4 then keyOk o.k.data.toList&&eD o.n&&decide (o.no=0)&&jV o.m
 else if o.K=1 then keyOk o.k.data.toList&&eD o.n&&eD o.no&&jV o.m
 else if o.K=2 then decide (o.k.toList=[])&&decide (o.n=0)&&eD o.no&&jV o.m
 else if o.K=5 then decide (o.k.toList=[])&&decide (o.n=0)&&decide (o.no=0)&&jV o.m
 else if o.K=6 then decide (o.k.toList=[])&&decide (o.n=0)&&decide (o.no=0)&&bJ o.m
 else false
end Mth
abbrev jH (o:jE):Value:= .agg #[.int .i64 o.K,.int .i64 o.no,.string o.k,.int .i64 o.n,.int .i64 o.m.K,.int .i64 o.m.F,.int .i64 o.m.T,.int .i64 o.m.I,.int .i64 o.m.L,.string o.m.k,.int .i64 o.m.N]
namespace Mth
theorem zk {α:Type} {p:α→Bool} {f:α→Int} {l:List α} (h:fT p (fun s t=>gJ (f s) (f t)) l=true):l.Pairwise (fun s t=>f s < f t):=by
 have:=((oN (p:=p) (r:=fun s t=>gJ (f s) (f t)) (fun a b c h1 h2=>kH _ _ _ h1 h2)).1 h).2;exact this.imp (fun h=>by simpa [gJ] using h)
def setPu (n:Nd) (l:List Pu):Nd:=⟨n.id,n.par,n.kids,n.next,l,n.out,n.seen,n.old,n.reqs⟩
def setOut (n:Nd) (l:List jm):Nd:=⟨n.id,n.par,n.kids,n.next,n.pu,l,n.seen,n.old,n.reqs⟩
def bY (n:Nd) (l:List Sn):Nd:=⟨n.id,n.par,n.kids,n.next,n.pu,n.out,l,n.old,n.reqs⟩
def dD (n:Nd) (l:List Rq):Nd:=⟨n.id,n.par,n.kids,n.next,n.pu,n.out,n.seen,n.old,l⟩
def jR (n:Nd) (x:Int):Nd:=⟨n.id,n.par,n.kids,n.next,n.pu,n.out,n.seen,x,n.reqs⟩
def VZ (n:Nd) (x:Int):Nd:=⟨n.id,n.par,n.kids,x,n.pu,n.out,n.seen,n.old,n.reqs⟩
def lN (n:Nd) (key:ByteArray) (most:Int):Int:=if (aF n.pu key).f < most then(aF n.pu key).f else most
def Iu (n:Nd) (oI:Int):Bool:=decide (1≤oI∧n.out.length < 40∧n.next < 1000000000)
def nG (n:Nd) (dst:Int) (key:ByteArray) (oI:Int):Nd:=⟨n.id,n.par,n.kids,n.next+1,(bV n.pu key 0 (-1) 0 oI).1,n.out++[⟨n.next,dst,key,oI⟩],n.seen,n.old,n.reqs⟩
def dV (n:Nd) (dst:Int) (key:ByteArray) (most:Int):Nd×List Mg×Bool:=
 if Iu n (lN n key most)=true then(nG n dst key (lN n key most),[lG (nG n dst key (lN n key most)) ⟨n.next,dst,key,lN n key most⟩],true) else(n,[],false)
def dx (l:List Rq) (no:Int):Nat:=(l.takeWhile (fun r=>decide (r.no < no))).length
def kK (l:List Rq) (no:Int):Bool:=(l[dx l no]?).elim false (fun r=>decide (r.no=no))
def nN (l:List Rq) (q:Rq):List Rq:=l.take (dx l q.no)++q::l.drop (dx l q.no)
def jO (n:Nd) (q:Rq):Nd:=if 30 < (nN n.reqs q).length then dD (jR n ((nN n.reqs q).headD default).no) (nN n.reqs q).tail else dD n (nN n.reqs q)
def Ah (r:Rq) (key:ByteArray) (a:Int):Bool:=decide (r.s=0)&&(r.k.toList == key.toList)&&decide (r.n=a)
def eP (n:Nd) (no:Int) (key:ByteArray) (a:Int):Nd×Int:=
 if no≤n.old then(n,2)
 else if kK n.reqs no=true then(n,if Ah (n.reqs.getD (dx n.reqs no) default) key a=true then 0 else 1)
 else(jO (setPu n (bV n.pu key 0 (-1) 1 a).1) ⟨no,key,a,if (bV n.pu key 0 (-1) 1 a).2=true then 0 else 1⟩,if (bV n.pu key 0 (-1) 1 a).2=true then 0 else 1)
def lV (r:Rq):Rq:=⟨r.no,r.k,r.n,2⟩
def aX (n:Nd) (no:Int):Nd×Int:=
 if no≤n.old then(n,2)
 else if kK n.reqs no=false then(n,1)
 else if (n.reqs.getD (dx n.reqs no) default).s=1 then(n,1)
 else if (n.reqs.getD (dx n.reqs no) default).s=2 then(n,0)
 else if (bV n.pu (n.reqs.getD (dx n.reqs no) default).k 0 1 (-1) (n.reqs.getD (dx n.reqs no) default).n).2=true then
  (dD (setPu n (bV n.pu (n.reqs.getD (dx n.reqs no) default).k 0 1 (-1) (n.reqs.getD (dx n.reqs no) default).n).1) (n.reqs.set (dx n.reqs no) (lV (n.reqs.getD (dx n.reqs no) default))),0)
 else(n,1)
def gF (l:List Sn) (f:Int):Nat:=l.findIdx (fun s=>decide (s.f=f))
def dU (s:Sn) (low:Int):Int:=if s.l < low then low else s.l
def aW (s:Sn) (low:Int):List Int:=s.ids.filter (fun x=>decide (dU s low≤x))
def nU (s:Sn) (low i:Int):Bool:=decide (i < dU s low)||hasB (aW s low) i
def jG (l:List Int) (x:Int):List Int:=l.takeWhile (fun y=>decide (y < x))++x::l.dropWhile (fun y=>decide (y < x))
def Np (n:Nd) (m:Mg):Mg:=⟨2,n.id,m.F,m.I,0,ByteArray.empty,0⟩
def jN (n:Nd) (s:Sn) (m:Mg):Bool:=(bV n.pu m.k 0 1 0 m.N).2&&decide ((aW s m.L).length < 40)
def takeN (n:Nd) (m:Mg):Nd×Bool:=
 if nU (n.seen.getD (gF n.seen m.F) default) m.L m.I=true then
  (bY n (n.seen.set (gF n.seen m.F) ⟨m.F,dU (n.seen.getD (gF n.seen m.F) default) m.L,aW (n.seen.getD (gF n.seen m.F) default) m.L⟩),true)
 else if jN n (n.seen.getD (gF n.seen m.F) default) m=true then
  (bY (setPu n (bV n.pu m.k 0 1 0 m.N).1) (n.seen.set (gF n.seen m.F) ⟨m.F,dU (n.seen.getD (gF n.seen m.F) default) m.L,jG (aW (n.seen.getD (gF n.seen m.F) default) m.L) m.I⟩),true)
 else(bY n (n.seen.set (gF n.seen m.F) ⟨m.F,dU (n.seen.getD (gF n.seen m.F) default) m.L,aW (n.seen.getD (gF n.seen m.F) default) m.L⟩),false)
def gP (m:Mg) (s:jm):Bool:=decide (s.i=m.I∧s.t=m.F)
def eF (n:Nd) (m:Mg):Nd×List Mg×Int:=
 if m.K=1 then((takeN n m).1,if (takeN n m).2=true then[Np n m] else[],if (takeN n m).2=true then 0 else 1)
 else if m.K=2 then(setOut n (n.out.filter (fun s=> !gP m s)),[],0)
 else if hasB n.kids m.F=true then((dV n m.F m.k m.N).1,(dV n m.F m.k m.N).2.1,0)
 else(n,[],1)
def Dv (n:Nd) (o:jE):Mg:=⟨0,n.id,n.par,0,0,o.k,o.n⟩
def dW (n:Nd) (o:jE):Nd×List Mg×Int:=
 if o.K=0 then(if n.par= -1∧(bV n.pu o.k 1 1 0 o.n).2=true then(setPu n (bV n.pu o.k 1 1 0 o.n).1,[],0) else(n,[],1))
 else if o.K=1 then((eP n o.no o.k o.n).1,[],(eP n o.no o.k o.n).2)
 else if o.K=2 then((aX n o.no).1,[],(aX n o.no).2)
 else if o.K=3 then(if n.par= -1 then(n,[],1) else(n,[Dv n o],0))
 else if o.K=4 then(if n.par= -1 then(n,[],1) else((dV n n.par o.k o.n).1,(dV n n.par o.k o.n).2.1,if (dV n n.par o.k o.n).2.2=true then 0 else 1))
 else if o.K=5 then(n,n.out.map (lG n),0)
 else eF n o.m
def sH (n:Nd) (o:jE):Bool:= !decide (o.K=6)||(decide (o.m.T=n.id)&&dB n o.m.F)
def kR (n:Nd) (o:jE):Nd×List Mg×Int:=if bX o&&sH n o then dW n o else(n,[],3)
def Pn (n:Nd) (o:jE):Nd×List Mg×Int:=if dG n then kR n o else(n,[],3)
theorem Ed {n:Nd} {o:jE} (h:dG n=false):Pn n o=(n,[],3):=by unfold Pn;rw [h];rfl
theorem JW {n:Nd} {o:jE} (h:dG n=true):Pn n o=kR n o:=by unfold Pn;rw [h];rfl
theorem bq {n:Nd} (h:dG n=true):bQ n=true∧ig n.pu=true∧lC n=true∧eD n.next=true∧nZ n=true∧fQ n=true:=by
 unfold dG at h;simp only[Bool.and_eq_true] at h;exact⟨h.1.1.1.1.1,h.1.1.1.1.2,h.1.1.1.2,h.1.1.2,h.1.2,h.2⟩
theorem gQ {n:Nd} (h:fQ n=true):n.reqs.Pairwise (fun s t=>s.no < t.no)∧n.reqs.length≤30∧(∀q∈n.reqs,oo n q=true)∧0≤n.old∧n.old≤1000000000:=by
 unfold fQ at h;simp only[Bool.and_eq_true,decide_eq_true_eq] at h;obtain⟨⟨h1,h2⟩,h3⟩:=h;have h1':0≤n.old∧n.old≤1000000000:=by simpa [mW] using h1
 exact⟨zk (f:=fun r:Rq=>r.no) h3,h2,uT h3,h1'.1,h1'.2⟩
theorem og {n:Nd} (h:nZ n=true):n.out.Pairwise (fun s t=>s.i < t.i)∧n.out.length≤40∧(∀q∈n.out,qy n q=true):=by
 unfold nZ at h;simp only[Bool.and_eq_true,decide_eq_true_eq] at h;exact⟨zk (f:=fun r:jm=>r.i) h.2,h.1,uT h.2⟩
theorem iV {n:Nd} {q:Rq} (h:oo n q=true):n.old+1≤q.no∧q.no≤1000000000∧keyOk q.k.data.toList=true∧eD q.n=true∧0≤q.s∧q.s≤2:=by
 unfold oo at h;simp only[Bool.and_eq_true,decide_eq_true_eq] at h;exact⟨h.1.1.1.1,h.1.1.1.2,h.1.1.2,h.1.2,h.2.1,h.2.2⟩
theorem rO (l:List Rq) (no:Int):dx l no≤l.length:=by
 unfold dx;exact(List.takeWhile_sublist _).length_le
theorem uo (l:List Rq) (no:Int):∀i (hi:i < l.length),i < dx l no→l[i].no < no:=by
 induction l with
 |nil=>intro i hi;simp at hi
 |cons x l ih=>
  intro i hi h
  by_cases hx:x.no < no
  ·cases i with
   |zero=>exact hx
   |succ i=>
    refine ih i (by simpa using hi) ?_
    unfold dx at h ⊢
    rw [List.takeWhile_cons_of_pos (by simpa using hx)] at h
    simpa using h
  ·unfold dx at h;rw [List.takeWhile_cons_of_neg (by simpa using hx)] at h;simp at h
theorem um {l:List Rq} {no:Int} (hp:l.Pairwise (fun s t=>s.no < t.no)):∀i (hi:i < l.length),dx l no≤i→no≤l[i].no:=by
 induction l with
 |nil=>intro i hi;simp at hi
 |cons x l ih=>
  intro i hi h
  have hp':=List.pairwise_cons.1 hp
  by_cases hx:x.no < no
  ·unfold dx at h;rw [List.takeWhile_cons_of_pos (by simpa using hx)] at h;simp only[List.length_cons] at h;cases i with
   |zero=>omega
   |succ i=>exact ih hp'.2 i (by simpa using hi) (by unfold dx;omega)
  ·cases i with
   |zero=>show no≤x.no;omega
   |succ i=>
    have hi':i < l.length:=by simpa using hi
    have:=hp'.1 l[i] (List.getElem_mem hi')
    show no≤l[i].no
    omega
theorem EJ {l:List Rq} {no:Int} (hp:l.Pairwise (fun s t=>s.no < t.no)) {i:Nat} (hi:i≤l.length) (h1:∀j (hj:j < l.length),j < i→l[j].no < no) (h2:∀j (hj:j < l.length),i≤j→no≤l[j].no):dx l no=i:=by
 have hle:=rO l no;rcases Nat.lt_trichotomy (dx l no) i with h|h|h
 ·have a:=h1 (dx l no) (by omega) h;have b:=um (no:=no) hp (dx l no) (by omega) (Nat.le_refl _);omega
 ·exact h
 ·have a:=h2 i (by omega) (Nat.le_refl _);have b:=uo l no i (by omega) h;omega
theorem lu (l:List Rq) (no:Int):kK l no=true↔∃h:dx l no < l.length,l[dx l no].no=no:=by
 unfold kK;by_cases h:dx l no < l.length
 ·rw [List.getElem?_eq_getElem h];simp[h]
 ·rw [List.getElem?_eq_none (by omega)];simp[h]
theorem Iw {l:List Rq} {no:Int} (hp:l.Pairwise (fun s t=>s.no < t.no)) {i:Nat} (hi:i < l.length) (h:l[i].no=no):dx l no=i∧kK l no=true:=by
 have e:dx l no=i:=by
  refine EJ hp (by omega) (fun j hj hlt=>?_) (fun j hj hle=>?_)
  ·have:=List.pairwise_iff_getElem.1 hp j i hj hi hlt;omega
  ·rcases Nat.lt_or_ge i j with hlt|hge
   ·have:=List.pairwise_iff_getElem.1 hp i j hi hj hlt;omega
   ·have e:j=i:=by omega
    subst e;omega
 refine⟨e,(lu l no).2 ⟨by omega,?_⟩⟩;subst h;simp[e]
theorem Oz {l:List Rq} {no:Int} (h:∀q∈l,q.no≠no):kK l no=false:=by
 rw [Bool.eq_false_iff];intro hf;obtain⟨hi,e⟩:=(lu l no).1 hf;exact h _ (List.getElem_mem hi) e
theorem VT {l:List Pu} {key:ByteArray} {a:Int} (h:ig l=true) (hk:keyOk key.data.toList=true) (h1:1≤a) (h2:a≤(aF l key).f) (h3:a≤1000000000):(bV l key 0 (-1) 0 a).2=true:=by
 rw [D6 h ⟨h1,h3⟩];have hp:=uj h hk;have hk':=mh l key
 have hfd:found l key=true:=by
  cases hf:found l key with
  |true=>rfl
  |false=>
   exfalso
   obtain⟨_,hpw,_⟩:=(iU l).1 h
   have:aF l key=⟨key,0,0,0⟩:=by
    refine EG (fun q hq e=>?_);have hq2:=nH hpw hq;rw [e] at hq2;have hx:=Gs l key;rw [hf] at hx;have hx:=of_decide_eq_false hx;obtain⟨i,hi,rfl⟩:=List.mem_iff_getElem.1 hq;apply hx
    have hle:=jP l key;by_cases hpl:place l key < l.length
    ·refine⟨hpl,?_⟩;have hnl:=wV l key l[place l key] (l.drop (place l key+1)) (by rw [iH,List.drop_eq_getElem_cons hpl]);have hka:qM l key (place l key)=l[place l key].k:=by unfold qM;rw [List.getElem?_eq_getElem hpl];rfl
     rw [hka];rcases Nat.lt_trichotomy (place l key) i with hlt|heq|hgt
     ·have:=List.pairwise_iff_getElem.1 hpw _ _ hpl hi hlt;have h4:l[place l key].k.toList < l[i].k.toList:=this;rw [e] at h4;exact absurd h4 hnl
     ·subst heq;exact e
     ·exact am8
    ·exact am8
   rw [this] at h2
   dsimp only at h2
   omega
 have hlen:(gV l (dR (aF l key) 0 (-1) 0 a)).length≤20:=by
  have e:(dR (aF l key) 0 (-1) 0 a).k=key:=hk';rw [oh (by rw [e];exact hfd)];exact((iU l).1 h).2.2
 have hok:fH (dR (aF l key) 0 (-1) 0 a)=true:=by
  unfold fH mW at hp ⊢;unfold dR;simp only[Bool.and_eq_true,decide_eq_true_eq] at hp ⊢;refine⟨⟨⟨⟨hp.1.1.1.1,?_⟩,?_⟩,?_⟩,?_⟩<;>omega
 rw [hok,decide_eq_true hlen];rfl
end Mth
end Go.Proofs.YtacgbldlonoaaaaGreatDoor
