/- Parts. -/
import Derived.Test.YtohmklmkjmlpjaaGreatDoorRk25
import Derived.Test.YtohmklmkjmlpjaaGreatDoorRk13
namespace Go.Proofs.YtohmklmkjmlpjaaGreatDoor
open Go.Proofs.Tryz
open Go.RowKit
open Mth
variable {n:Nd} {o:gQ} {l:List Rq} {s:Sn} {q:Rq} {no a x low:Int} {i:Nat} {m:Mg} {key:ByteArray} {α:Type} {p:α->Bool} {f:α->Int}
namespace Mth
theorem Er {l:List α} (h:gZ p (λs t=>iN (f s) (f t)) l=true):l.Pairwise (λs t=>f s < f t):=by
 have:=((tH (p:=p) (r:=λs t=>iN (f s) (f t)) (λa b c h1 h2=>mX _ _ _ h1 h2)).1 h).2;exact this.imp (λh=>Acu)
def setPu (n:Nd) (l:List Pu):Nd:=⟨n.id,n.par,n.kids,n.next,l,n.out,n.seen,n.old,n.reqs⟩
def setOut (n:Nd) (l:List jw):Nd:=⟨n.id,n.par,n.kids,n.next,n.pu,l,n.seen,n.old,n.reqs⟩
def dP (n:Nd) (l:List Sn):Nd:=⟨n.id,n.par,n.kids,n.next,n.pu,n.out,l,n.old,n.reqs⟩
def eu (n:Nd) (l:List Rq):Nd:=⟨n.id,n.par,n.kids,n.next,n.pu,n.out,n.seen,n.old,l⟩
def mq (n:Nd) (x:Int):Nd:=⟨n.id,n.par,n.kids,n.next,n.pu,n.out,n.seen,x,n.reqs⟩
def afD (n:Nd) (x:Int):Nd:=⟨n.id,n.par,n.kids,x,n.pu,n.out,n.seen,n.old,n.reqs⟩
def oF (n:Nd) (key:ByteArray) (most:Int):Int:=if (aD n.pu key).f < most then(aD n.pu key).f else most
def Qn (n:Nd) (sZ:Int):Bool:=decide (1<=sZ/\n.out.length < 40/\n.next < 1000000000)
def qQ (n:Nd) (dst:Int) (key:ByteArray) (sZ:Int):Nd:=⟨n.id,n.par,n.kids,n.next+1,(dJ n.pu key 0 (-1) 0 sZ).1,n.out++[⟨n.next,dst,key,sZ⟩],n.seen,n.old,n.reqs⟩
def fD (n:Nd) (dst:Int) (key:ByteArray) (most:Int):Nd×List Mg×Bool:=
 if Qn n (oF n key most)=true then(qQ n dst key (oF n key most),[nZ (qQ n dst key (oF n key most)) ⟨n.next,dst,key,oF n key most⟩],true) else(n,[],false)
def dS (l:List Rq) (no:Int):Nat:=(l.takeWhile (λr=>decide (r.no < no))).length
def nC (l:List Rq) (no:Int):Bool:=(l[dS l no]?).elim false (λr=>decide (r.no=no))
def tY (l:List Rq) (q:Rq):List Rq:=l.take (dS l q.no)++q::l.drop (dS l q.no)
def lY (n:Nd) (q:Rq):Nd:=if 30 < (tY n.reqs q).length then eu (mq n ((tY n.reqs q).headD default).no) (tY n.reqs q).tail else eu n (tY n.reqs q)
def FE (r:Rq) (key:ByteArray) (a:Int):Bool:=decide (r.s=0)&&(r.k.toList == key.toList)&&decide (r.n=a)
def fU (n:Nd) (no:Int) (key:ByteArray) (a:Int):Nd×Int:=
 if no<=n.old then(n,2)
 else if nC n.reqs no=true then(n,if FE (n.reqs.getD (dS n.reqs no) default) key a=true then 0 else 1)
 else(lY (setPu n (dJ n.pu key 0 (-1) 1 a).1) ⟨no,key,a,if (dJ n.pu key 0 (-1) 1 a).2=true then 0 else 1⟩,if (dJ n.pu key 0 (-1) 1 a).2=true then 0 else 1)
def oI (r:Rq):Rq:=⟨r.no,r.k,r.n,2⟩
def bC (n:Nd) (no:Int):Nd×Int:=
 if no<=n.old then(n,2)
 else if nC n.reqs no=false then(n,1)
 else if (n.reqs.getD (dS n.reqs no) default).s=1 then(n,1)
 else if (n.reqs.getD (dS n.reqs no) default).s=2 then(n,0)
 else if (dJ n.pu (n.reqs.getD (dS n.reqs no) default).k 0 1 (-1) (n.reqs.getD (dS n.reqs no) default).n).2=true then
  (eu (setPu n (dJ n.pu (n.reqs.getD (dS n.reqs no) default).k 0 1 (-1) (n.reqs.getD (dS n.reqs no) default).n).1) (n.reqs.set (dS n.reqs no) (oI (n.reqs.getD (dS n.reqs no) default))),0)
 else(n,1)
def iE (l:List Sn) (f:Int):Nat:=l.findIdx (λs=>decide (s.f=f))
def fJ (s:Sn) (low:Int):Int:=if s.l < low then low else s.l
def bg (s:Sn) (low:Int):List Int:=s.ids.filter (λx=>decide (fJ s low<=x))
def rM (s:Sn) (low i:Int):Bool:=decide (i < fJ s low)||hasB (bg s low) i
def lN (l:List Int) (x:Int):List Int:=l.takeWhile (λy=>decide (y < x))++x::l.dropWhile (λy=>decide (y < x))
def Xe (n:Nd) (m:Mg):Mg:=⟨2,n.id,m.F,m.I,0,ByteArray.empty,0⟩
def lW (n:Nd) (s:Sn) (m:Mg):Bool:=(dJ n.pu m.k 0 1 0 m.N).2&&decide ((bg s m.L).length < 40)
def takeN (n:Nd) (m:Mg):Nd×Bool:=
 if rM (n.seen.getD (iE n.seen m.F) default) m.L m.I=true then
  (dP n (n.seen.set (iE n.seen m.F) ⟨m.F,fJ (n.seen.getD (iE n.seen m.F) default) m.L,bg (n.seen.getD (iE n.seen m.F) default) m.L⟩),true)
 else if lW n (n.seen.getD (iE n.seen m.F) default) m=true then
  (dP (setPu n (dJ n.pu m.k 0 1 0 m.N).1) (n.seen.set (iE n.seen m.F) ⟨m.F,fJ (n.seen.getD (iE n.seen m.F) default) m.L,lN (bg (n.seen.getD (iE n.seen m.F) default) m.L) m.I⟩),true)
 else(dP n (n.seen.set (iE n.seen m.F) ⟨m.F,fJ (n.seen.getD (iE n.seen m.F) default) m.L,bg (n.seen.getD (iE n.seen m.F) default) m.L⟩),false)
def iY (m:Mg) (s:jw):Bool:=decide (s.i=m.I/\s.t=m.F)
def fZ (n:Nd) (m:Mg):Nd×List Mg×Int:=
 if m.K=1 then((takeN n m).1,if (takeN n m).2=true then[Xe n m] else[],if (takeN n m).2=true then 0 else 1)
 else if m.K=2 then(setOut n (n.out.filter (λs=> !iY m s)),[],0)
 else if hasB n.kids m.F=true then((fD n m.F m.k m.N).1,(fD n m.F m.k m.N).2.1,0)
 else(n,[],1)
def J3 (n:Nd) (o:gQ):Mg:=⟨0,n.id,n.par,0,0,o.k,o.n⟩
def fF (n:Nd) (o:gQ):Nd×List Mg×Int:=
 if o.K=0 then(if n.par= -1/\(dJ n.pu o.k 1 1 0 o.n).2=true then(setPu n (dJ n.pu o.k 1 1 0 o.n).1,[],0) else(n,[],1))
 else if o.K=1 then((fU n o.no o.k o.n).1,[],(fU n o.no o.k o.n).2)
 else if o.K=2 then((bC n o.no).1,[],(bC n o.no).2)
 else if o.K=3 then(if n.par= -1 then(n,[],1) else(n,[J3 n o],0))
 else if o.K=4 then(if n.par= -1 then(n,[],1) else((fD n n.par o.k o.n).1,(fD n n.par o.k o.n).2.1,if (fD n n.par o.k o.n).2.2=true then 0 else 1))
 else if o.K=5 then(n,n.out.map (nZ n),0)
 else fZ n o.m
def xu (n:Nd) (o:gQ):Bool:= !decide (o.K=6)||(decide (o.m.T=n.id)&&eF n o.m.F)
def nD (n:Nd) (o:gQ):Nd×List Mg×Int:=if cK o&&xu n o then fF n o else(n,[],3)
def Zo (n:Nd) (o:gQ):Nd×List Mg×Int:=if dY n then nD n o else(n,[],3)
theorem KF (h:dY n=false):Zo n o=(n,[],3):=by unfold Zo;rw [h];rfl
theorem SH (h:dY n=true):Zo n o=nD n o:=by unfold Zo;rw [h];rfl
theorem cu (h:dY n=true):eP n=true/\jh n.pu=true/\nV n=true/\fK n.next=true/\rQ n=true/\gX n=true:=by
 unfold dY at h;simp only[Bool.and_eq_true] at h;exact⟨h.1.1.1.1.1,h.1.1.1.1.2,h.1.1.1.2,h.1.1.2,h.1.2,h.2⟩
theorem jc (h:gX n=true):n.reqs.Pairwise (λs t=>s.no < t.no)/\n.reqs.length<=30/\(∀q∈n.reqs,rW n q=true)/\0<=n.old/\n.old<=1000000000:=by
 unfold gX at h;simp only[Bool.and_eq_true,decide_eq_true_eq] at h;obtain⟨⟨h1,h2⟩,h3⟩:=h;have h1':0<=n.old/\n.old<=1000000000:=by simpa [qy] using h1
 exact⟨Er (f:=λr:Rq=>r.no) h3,h2,zl h3,h1'.1,h1'.2⟩
theorem rR (h:rQ n=true):n.out.Pairwise (λs t=>s.i < t.i)/\n.out.length<=40/\(∀q∈n.out,uR n q=true):=by
 unfold rQ at h;simp only[Bool.and_eq_true,decide_eq_true_eq] at h;exact⟨Er (f:=λr:jw=>r.i) h.2,h.1,zl h.2⟩
theorem jV (h:rW n q=true):n.old+1<=q.no/\q.no<=1000000000/\keyOk q.k.data.toList=true/\fK q.n=true/\0<=q.s/\q.s<=2:=by
 unfold rW at h;simp only[Bool.and_eq_true,decide_eq_true_eq] at h;exact⟨h.1.1.1.1,h.1.1.1.2,h.1.1.2,h.1.2,h.2.1,h.2.2⟩
theorem wH (l:List Rq) (no:Int):dS l no<=l.length:=by
 unfold dS;exact(List.takeWhile_sublist _).length_le
theorem yE (l:List Rq) (no:Int):∀i (hi:i < l.length),i < dS l no->l[i].no < no:=by
 induction l with
 |nil=>intro i hi;simp at hi
 |cons x l ih=>
  intro i hi h;by_cases hx:x.no < no
  .cases i with
   |zero=>exact hx
   |succ i=>
    refine ih i Aap ?_;unfold dS at h ⊢;rw [List.takeWhile_cons_of_pos Aaf] at h;simpa using h
  .unfold dS at h;rw [List.takeWhile_cons_of_neg Aaf] at h;simp at h
theorem yD {l:List Rq} {no:Int} (hp:l.Pairwise (λs t=>s.no < t.no)):∀i (hi:i < l.length),dS l no<=i->no<=l[i].no:=by
 induction l with
 |nil=>intro i hi;simp at hi
 |cons x l ih=>
  intro i hi h;have hp':=List.pairwise_cons.1 hp;by_cases hx:x.no < no
  .unfold dS at h;rw [List.takeWhile_cons_of_pos Aaf] at h;simp only[List.length_cons] at h;cases i with
   |zero=>omega
   |succ i=>exact ih hp'.2 i Aap (by unfold dS;omega)
  .cases i with
   |zero=>show no<=x.no;omega
   |succ i=>
    have hi':i < l.length:=Aap
    have:=hp'.1 l[i] (List.getElem_mem hi');show no<=l[i].no
    omega
theorem Me (hp:l.Pairwise (λs t=>s.no < t.no)) (hi:i<=l.length) (h1:∀j (hj:j < l.length),j < i->l[j].no < no) (h2:∀j (hj:j < l.length),i<=j->no<=l[j].no):dS l no=i:=by
 have hle:=wH l no;rcases Nat.lt_trichotomy (dS l no) i with h|h|h
 .have a:=h1 (dS l no) Aaa h;have b:=yD (no:=no) hp (dS l no) Aaa (Nat.le_refl _);omega
 .exact h
 .have a:=h2 i Aaa (Nat.le_refl _);have b:=yE l no i Aaa h;omega
theorem nT (l:List Rq) (no:Int):nC l no=true↔∃h:dS l no < l.length,l[dS l no].no=no:=by
 unfold nC;by_cases h:dS l no < l.length
 .rw [List.getElem?_eq_getElem h];simp[h]
 .rw [List.getElem?_eq_none Aaa];simp[h]
theorem Qv (hp:l.Pairwise (λs t=>s.no < t.no)) (hi:i < l.length) (h:l[i].no=no):dS l no=i/\nC l no=true:=by
 have e:dS l no=i:=by
  refine Me hp Aaa (λj hj hlt=>?_) (λj hj hle=>?_)
  .have:=List.pairwise_iff_getElem.1 hp j i hj hi hlt;omega
  .rcases Nat.lt_or_ge i j with hlt|hge
   .have:=List.pairwise_iff_getElem.1 hp i j hi hj hlt;omega
   .have e:j=i:=Aaa
    subst e;omega
 refine⟨e,(nT l no).2 ⟨Aaa,?_⟩⟩;subst h;simp[e]
theorem Yq (h:∀q∈l,q.no≠no):nC l no=false:=by
 rw [Bool.eq_false_iff];intro hf;obtain⟨hi,e⟩:=(nT l no).1 hf;exact h _ (List.getElem_mem hi) e
theorem afw {l:List Pu} (h:jh l=true) (hk:keyOk key.data.toList=true) (h1:1<=a) (h2:a<=(aD l key).f) (h3:a<=1000000000):(dJ l key 0 (-1) 0 a).2=true:=by
 rw [Kq h ⟨h1,h3⟩];have hp:=yA h hk;have hk':=oZ l key
 have hfd:found l key=true:=by
  cases hf:found l key with
  |true=>rfl
  |false=>
   exfalso
   obtain⟨_,hpw,_⟩:=(jT l).1 h
   have:aD l key=⟨key,0,0,0⟩:=by
    refine L9 (λq hq e=>?_);have hq2:=qR hpw hq;rw [e] at hq2;have hx:=OM l key;rw [hf] at hx;have hx:=of_decide_eq_false hx;obtain⟨i,hi,rfl⟩:=List.mem_iff_getElem.1 hq;apply hx
    have hle:=lZ l key;by_cases hpl:place l key < l.length
    .refine⟨hpl,?_⟩;have hnl:=Bl l key l[place l key] (l.drop (place l key+1)) (by rw [jA,List.drop_eq_getElem_cons hpl]);have hka:vG l key (place l key)=l[place l key].k:=by unfold vG;rw [List.getElem?_eq_getElem hpl];rfl
     rw [hka];rcases Nat.lt_trichotomy (place l key) i with hlt|heq|hgt
     .have:=List.pairwise_iff_getElem.1 hpw _ _ hpl hi hlt;have h4:l[place l key].k.toList < l[i].k.toList:=this;rw [e] at h4;exact absurd h4 hnl
     .subst heq;exact e
     .exact aiA
    .exact aiA
   rw [this] at h2;dsimp only at h2;omega
 have hlen:(je l (eY (aD l key) 0 (-1) 0 a)).length<=20:=by
  have e:(eY (aD l key) 0 (-1) 0 a).k=key:=hk';rw [rU (by rw [e];exact hfd)];exact((jT l).1 h).2.2
 have hok:iD (eY (aD l key) 0 (-1) 0 a)=true:=by
  unfold iD qy at hp ⊢;unfold eY;simp only[Bool.and_eq_true,decide_eq_true_eq] at hp ⊢;refine⟨⟨⟨⟨hp.1.1.1.1,?_⟩,?_⟩,?_⟩,?_⟩<;>omega
 rw [hok,decide_eq_true hlen];rfl
end Mth
namespace Mth
theorem zR (h1:eP n=true) (h2:jh n.pu=true) (h3:nV n=true) (h4:fK n.next=true) (h5:rQ n=true) (h6:gX n=true):dY n=true:=by
 unfold dY;rw [h1,h2,h3,h4,h5,h6];rfl
theorem rG {l:List Pu} {dm df ds n:Int} (h:jh l=true):jh (dJ l key dm df ds n).1=true:=by
 unfold dJ qX;split
 .rename_i hc
  simp only[Bool.and_eq_true] at hc;exact hc.2
 .exact h
theorem uj {l:List Pu} (h:dY n=true) (hl:jh l=true):dY (setPu n l)=true:=by
 obtain⟨h1,_,h3,h4,h5,h6⟩:=cu h;exact zR h1 hl h3 h4 h5 h6
theorem Kz {l:List α} (h1:∀x∈l,p x=true) (h2:l.Pairwise (λs t=>f s < f t)):gZ p (λs t=>iN (f s) (f t)) l=true:=
 (tH (p:=p) (r:=λs t=>iN (f s) (f t)) (λa b c h1 h2=>mX _ _ _ h1 h2)).2 ⟨h1,h2.imp (λh=>Acu)⟩
theorem afB (h1:0<=n.old) (h2:n.old<=1000000000) (h3:n.reqs.length<=30) (h4:n.reqs.Pairwise (λs t=>s.no < t.no)) (h5:∀q∈n.reqs,rW n q=true):gX n=true:=by
 unfold gX;rw [Kz (f:=λr:Rq=>r.no) h5 h4];simp[qy,h1,h2,h3]
theorem Md (h1:n.old < q.no) (h2:q.no<=1000000000) (h3:keyOk q.k.data.toList=true) (h4:fK q.n=true) (h5:0<=q.s) (h6:q.s<=2):rW n q=true:=by
 unfold rW;rw [h3,h4];simp only[Bool.and_true,Bool.and_eq_true,decide_eq_true_eq];omega
theorem PU (l:List Rq) (q:Rq):(tY l q).length=l.length+1:=by
 have:=wH l q.no;unfold tY;simp;omega
theorem acu {r:Rq} (h:r∈tY l q):r=q\/r∈l:=by
 unfold tY at h;rcases List.mem_append.1 h with h|h
 .exact .inr (List.mem_of_mem_take h)
 .rcases List.mem_cons.1 h with h|h
  .exact .inl h
  .exact .inr (List.mem_of_mem_drop h)
theorem acs (hp:l.Pairwise (λs t=>s.no < t.no)) (hf:nC l q.no=false):(tY l q).Pairwise (λs t=>s.no < t.no):=by
 have hlt:∀i (hi:i < l.length),dS l q.no<=i->q.no < l[i].no:=λi hi hle=>by
  have h1:=yD (no:=q.no) hp i hi hle
  rcases Int.lt_or_eq_of_le h1 with h|h
  .exact h
  .have:=(Qv hp hi h.symm).2;rw [hf] at this;cases this
 unfold tY;rw [List.pairwise_append,List.pairwise_cons];refine⟨hp.sublist (List.take_sublist _ _),⟨λr hr=>?_,hp.sublist (List.drop_sublist _ _)⟩,λr hr s hs=>?_⟩
 .obtain⟨i,hi,rfl⟩:=List.mem_iff_getElem.1 hr;rw [List.getElem_drop];exact hlt _ _ Aaa
 .obtain⟨i,hi,rfl⟩:=List.mem_iff_getElem.1 hr;rw [List.getElem_take];have hi':i < dS l q.no:=Abo
  have hil:i < l.length:=by have:=wH l q.no;omega
  have h1:=yE l q.no i hil hi';rcases List.mem_cons.1 hs with rfl|hs
  .exact h1
  .obtain⟨j,hj,rfl⟩:=List.mem_iff_getElem.1 hs;rw [List.getElem_drop];have:=hlt (dS l q.no+j) (by simp at hj;omega) Aaa;omega
theorem um (h:dY n=true) (h1:0<=x) (h2:x<=1000000000) (h3:l.length<=30) (h4:l.Pairwise (λs t=>s.no < t.no)) (h5:∀q∈l,rW (mq n x) q=true):dY (eu (mq n x) l)=true:=by
 obtain⟨g1,g2,g3,g4,g5,_⟩:=cu h;exact zR g1 g2 g3 g4 g5 (afB h1 h2 h3 h4 h5)
theorem Ya (h:dY n=true) (hf:nC n.reqs q.no=false) (h1:n.old < q.no) (h2:q.no<=1000000000) (h3:keyOk q.k.data.toList=true) (h4:fK q.n=true) (h5:0<=q.s) (h6:q.s<=2):dY (lY n q)=true:=by
 obtain⟨_,_,_,_,_,g6⟩:=cu h;obtain⟨a1,a2,a3,a4,a5⟩:=jc g6;have hasc:=acs a1 hf;have hlen:=PU n.reqs q
 have hall:∀r∈tY n.reqs q,rW n r=true:=λr hr=>by
  rcases acu hr with rfl|hr
  .exact Md h1 h2 h3 h4 h5 h6
  .exact a3 r hr
 unfold lY;split
 .cases hc:tY n.reqs q with
  |nil=>rw [hc] at hlen;simp at hlen
  |cons r l=>
   rw [hc] at hasc hall hlen;have hp:=List.pairwise_cons.1 hasc;have hr:=jV (hall r Aac);simp only[List.headD_cons,List.tail_cons];refine um h Aaa hr.2.1 (by simp at hlen;omega) hp.2 (λs hs=>?_);have b:=jV (hall s (by simp[hs]));exact Md (hp.1 s hs) b.2.1 b.2.2.1 b.2.2.2.1 b.2.2.2.2.1 b.2.2.2.2.2
 .rename_i hc
  have e:eu n (tY n.reqs q)=eu (mq n n.old) (tY n.reqs q):=rfl;rw [e];exact um h a4 a5 Aaa hasc hall
theorem TU (h:dY n=true) (h2:no<=1000000000) (h3:keyOk key.data.toList=true) (h4:fK a=true):dY (fU n no key a).1=true:=by
 unfold fU;split
 .exact h
 .split
  .exact h
  .rename_i hs hf
   have hpu:=uj (l:=(dJ n.pu key 0 (-1) 1 a).1) h (rG (cu h).2.1);refine Ya hpu ?_ ?_ h2 h3 h4 ?_ ?_
   .show nC n.reqs no=false
    simpa using hf
   .show n.old < no
    omega
   .dsimp only;split<;>omega
   .dsimp only;split<;>omega
theorem abK (hi:i < l.length):l.getD i default=l[i]:=by rw [List.getD_eq_getElem?_getD,List.getElem?_eq_getElem hi];rfl
theorem LC (h:dY n=true):dY (bC n no).1=true:=by
 unfold bC;split
 .exact h
 .split
  .exact h
  .split
   .exact h
   .split
    .exact h
    .split
     .rename_i hf _ _ hp
      obtain⟨hi,hno⟩:=(nT n.reqs no).1 Ach;have hpu:=uj (l:=(dJ n.pu (n.reqs.getD (dS n.reqs no) default).k 0 1 (-1) (n.reqs.getD (dS n.reqs no) default).n).1) h (rG (cu h).2.1);obtain⟨_,_,_,_,_,g6⟩:=cu h;obtain⟨a1,a2,a3,a4,a5⟩:=jc g6;rw [abK hi] at hpu ⊢;have hb:=jV (a3 _ (List.getElem_mem hi));have e:∀l,eu (setPu n l) (n.reqs.set (dS n.reqs no) (oI n.reqs[dS n.reqs no]))=eu (mq (setPu n l) (setPu n l).old) (n.reqs.set (dS n.reqs no) (oI n.reqs[dS n.reqs no])):=λ_=>rfl
      rw [e];refine um hpu a4 a5 (by simpa using a2) ?_ ?_
      .rw [List.pairwise_iff_getElem] at a1 ⊢;intro i j hi' hj' hij
       have e2:∀k (hk:k < (n.reqs.set (dS n.reqs no) (oI n.reqs[dS n.reqs no])).length),((n.reqs.set (dS n.reqs no) (oI n.reqs[dS n.reqs no]))[k]).no=(n.reqs[k]' Acj).no:=λk hk=>by
        rw [List.getElem_set]
        split
        .rename_i he;subst he;rfl
        .rfl
       rw [e2 i hi',e2 j hj'];exact a1 i j (by simpa using hi') (by simpa using hj') hij
      .intro q hq;rcases List.mem_or_eq_of_mem_set hq with hq|rfl
       .exact a3 q hq
       .exact Md (show n.old < _ by have:=hb.1;simp only[oI];omega) hb.2.1 hb.2.2.1 hb.2.2.2.1 (by simp[oI]) (by simp[oI])
     .exact h
theorem Jz {dst:Int} (h:dY n=true) (hd:eF n dst=true) (hk:keyOk key.data.toList=true) (ha:a<=1000000000):dY (fD n dst key a).1=true:=by
 unfold fD;split
 .rename_i hp
  obtain⟨g1,g2,g3,g4,g5,g6⟩:=cu h;obtain⟨o1,o2,o3⟩:=rR g5;unfold Qn at hp;have hp:=of_decide_eq_true hp;have hn:1<=n.next/\n.next<=1000000000:=by simpa [fK] using g4
  have hle:oF n key a<=1000000000:=by unfold oF;split<;>omega
  refine zR g1 (rG g2) g3 ?_ ?_ g6
  .show fK (n.next+1)=true
   unfold fK;simp only[decide_eq_true_eq];omega
  .unfold rQ;have e:(qQ n dst key (oF n key a)).out=n.out++[⟨n.next,dst,key,oF n key a⟩]:=rfl;rw [e];rw [Kz (f:=λr:jw=>r.i)]
   .simp;omega
   .intro s hs;have eB:∀s,uR (qQ n dst key (oF n key a)) s=(decide (1<=s.i/\s.i<=n.next+1 - 1)&&eF n s.t&&keyOk s.k.data.toList&&fK s.n):=λ_=>rfl
    rw [eB];rcases List.mem_append.1 hs with hs|hs
    .have:=o3 s hs;unfold uR at this;simp only[Bool.and_eq_true,decide_eq_true_eq] at this ⊢;exact⟨⟨⟨Aaa,this.1.1.2⟩,this.1.2⟩,this.2⟩
    .obtain rfl:s=⟨n.next,dst,key,oF n key a⟩:=by simpa using hs
     simp only[Bool.and_eq_true,decide_eq_true_eq];refine⟨⟨⟨Aaa,hd⟩,hk⟩,?_⟩;unfold fK;simp only[decide_eq_true_eq];omega
   .rw [List.pairwise_append];refine⟨o1,Aac,λs hs t ht=>?_⟩;obtain rfl:t=⟨n.next,dst,key,oF n key a⟩:=by simpa using ht
    have:=o3 s hs;unfold uR at this;simp only[Bool.and_eq_true,decide_eq_true_eq] at this;show s.i < n.next
    omega
 .exact h
theorem FH (h:dY n=true) {f:Int} (hf:eF n f=true):∃hi:iE n.seen f < n.seen.length,n.seen[iE n.seen f].f=f:=by
 obtain⟨g1,_,g3,_,_,_⟩:=cu h;rw [wK g1,Bool.and_eq_true,decide_eq_true_eq] at g3;have hm:f∈n.seen.map (·.f):=by rw [g3.1,MW];exact(Fp g1 f).1 hf
 obtain⟨s,hs,rfl⟩:=List.mem_map.1 hm;have hx:iE n.seen s.f < n.seen.length:=List.findIdx_lt_length_of_exists ⟨s,hs,Aac⟩;exact⟨hx,of_decide_eq_true (List.findIdx_getElem (p:=λt:Sn=>decide (t.f=s.f)) (w:=hx))⟩
theorem Ab (h:dY n=true):∀s∈n.seen,uV s=true:=by
 obtain⟨g1,_,g3,_,_,_⟩:=cu h;rw [wK g1,Bool.and_eq_true] at g3;exact List.all_eq_true.1 g3.2
theorem sK (h:uV s=true):1<=s.l/\s.l<=1000000000/\s.ids.length<=40/\(∀x∈s.ids,s.l<=x/\x<=1000000000)/\s.ids.Pairwise (· < ·):=by
 unfold uV at h;simp only[Bool.and_eq_true,decide_eq_true_eq] at h;have h1:1<=s.l/\s.l<=1000000000:=by simpa [fK] using h.1.1
 have h2:=(tH (p:=Bv s.l) (r:=iN) mX).1 h.2;exact⟨h1.1,h1.2,h.1.2,λx hx=>by simpa [Bv] using h2.1 x hx,h2.2.imp (λh=>Acu)⟩
theorem adi (h1:1<=s.l) (h2:s.l<=1000000000) (h3:s.ids.length<=40) (h4:∀x∈s.ids,s.l<=x/\x<=1000000000) (h5:s.ids.Pairwise (· < ·)):uV s=true:=by
 unfold uV;rw [(tH (p:=Bv s.l) (r:=iN) mX).2 ⟨λx hx=>by simpa [Bv] using h4 x hx,h5.imp (λh=>Acu)⟩];simp[fK,h1,h2,h3]
theorem zT (hi:i < n.seen.length) (h:dY n=true) (hf:s.f=n.seen[i].f) (hs:uV s=true):dY (dP n (n.seen.set i s))=true:=by
 obtain⟨g1,g2,g3,g4,g5,g6⟩:=cu h;refine zR g1 g2 ?_ g4 g5 g6;have g1':eP (dP n (n.seen.set i s))=true:=g1;rw [wK g1',Bool.and_eq_true,decide_eq_true_eq];rw [wK g1,Bool.and_eq_true,decide_eq_true_eq] at g3;refine⟨?_,?_⟩
 .show(n.seen.set i s).map (·.f)=YN (qA n)
  rw [<-g3.1,List.map_set,hf];apply List.ext_getElem?
  intro j;rw [List.getElem?_set];split
  .rename_i e
   subst e;simp[hi]
  .rfl
 .show(n.seen.set i s).all uV=true
  rw [List.all_eq_true];intro x hx;rcases List.mem_or_eq_of_mem_set hx with hx|rfl
  .exact List.all_eq_true.1 g3.2 x hx
  .exact hs
theorem VR (h:uV s=true) (h1:low<=1000000000):1<=fJ s low/\fJ s low<=1000000000/\s.l<=fJ s low/\low<=fJ s low:=by
 have:=sK h;unfold fJ;split<;>omega
theorem K7 (h:uV s=true) (h1:low<=1000000000):uV ⟨s.f,fJ s low,bg s low⟩=true:=by
 have hl:=VR h h1;obtain⟨a1,a2,a3,a4,a5⟩:=sK h;refine adi hl.1 hl.2.1 ?_ ?_ ?_
 .exact Nat.le_trans (List.length_filter_le _ _) a3
 .intro x hx;have:=List.mem_filter.1 hx;exact⟨by simpa using this.2,(a4 x this.1).2⟩
 .exact a5.sublist List.filter_sublist
theorem M0 (x:Int):∀(l:List Int),∀y∈l.takeWhile (λy=>decide (y < x)),y < x:=by
 intro l;induction l with
 |nil=>intro y hy;simp at hy
 |cons z l ih=>
  intro y hy;by_cases hz:z < x
  .rw [List.takeWhile_cons_of_pos Ack] at hy;rcases List.mem_cons.1 hy with rfl|hy
   .exact hz
   .exact ih y hy
  .rw [List.takeWhile_cons_of_neg Ack] at hy;cases hy
theorem zn (x:Int):∀(l:List Int),l.Pairwise (· < ·)->∀y∈l.dropWhile (λy=>decide (y < x)),x<=y:=by
 intro l;induction l with
 |nil=>intro _ y hy;simp at hy
 |cons z l ih=>
  intro hp y hy;by_cases hz:z < x
  .rw [List.dropWhile_cons_of_pos Ack] at hy;exact ih (List.pairwise_cons.1 hp).2 y hy
  .rw [List.dropWhile_cons_of_neg Ack] at hy;rcases List.mem_cons.1 hy with rfl|hy
   .omega
   .have:=(List.pairwise_cons.1 hp).1 y hy;omega
theorem Co (l:List Int) (x:Int):(lN l x).length=l.length+1:=by
 unfold lN;have:=congrArg List.length (List.takeWhile_append_dropWhile (p:=λy=>decide (y < x)) (l:=l));rw [List.length_append] at this;rw [List.length_append,List.length_cons];omega
theorem PN {l:List Int} {y:Int}:y∈lN l x↔y=x\/y∈l:=by
 unfold lN;have e:=List.takeWhile_append_dropWhile (p:=λy=>decide (y < x)) (l:=l);constructor
 .intro h;rcases List.mem_append.1 h with h|h
  .exact .inr ((List.takeWhile_sublist _).mem h)
  .rcases List.mem_cons.1 h with h|h
   .exact .inl h
   .exact .inr ((List.dropWhile_sublist _).mem h)
 .rintro(rfl|h)
  .simp
  .rw [<-e] at h;rcases List.mem_append.1 h with h|h
   .exact List.mem_append.2 (.inl h)
   .exact List.mem_append.2 (.inr (List.mem_cons_of_mem _ h))
theorem PK {l:List Int} (hp:l.Pairwise (· < ·)) (hx:x∉l):(lN l x).Pairwise (· < ·):=by
 unfold lN;rw [List.pairwise_append,List.pairwise_cons];refine⟨hp.sublist (List.takeWhile_sublist _),⟨λy hy=>?_,hp.sublist (List.dropWhile_sublist _)⟩,λy hy z hz=>?_⟩
 .have h1:=zn x l hp y hy;have h2:y≠x:=λe=>hx (e▸(List.dropWhile_sublist _).mem hy)
  omega
 .have h1:=M0 x l y hy;rcases List.mem_cons.1 hz with rfl|hz
  .exact h1
  .have h2:=zn x l hp z hz;omega
theorem VK {i:Int} (h:rM s low i=false):fJ s low<=i/\i∉bg s low:=by
 unfold rM at h;rw [Bool.or_eq_false_iff] at h;refine⟨by simpa using h.1,λhm=>?_⟩;rw [(zx _ _).2 hm] at h;cases h.2
theorem DW {l:List Sn} (hi:i < l.length):l.getD i default=l[i]:=by rw [List.getD_eq_getElem?_getD,List.getElem?_eq_getElem hi];rfl
theorem Yb (h:dY n=true) (hd:eF n m.F=true) (hL:m.L<=1000000000) (hI:m.I<=1000000000):dY (takeN n m).1=true:=by
 obtain⟨hi,hf⟩:=FH h hd;have hs:=Ab h _ (List.getElem_mem hi);unfold takeN;rw [DW hi];split
 .exact ajH
 .split
  .rename_i h1 h2
   have h1':rM n.seen[iE n.seen m.F] m.L m.I=false:=Aaq
   obtain⟨b1,b2⟩:=VK h1';have ho:=sK (K7 hs hL);have hl:=VR hs hL;unfold lW at h2;simp only[Bool.and_eq_true,decide_eq_true_eq] at h2;have hpu:=uj (l:=(dJ n.pu m.k 0 1 0 m.N).1) h (rG (cu h).2.1);refine zT (n:=setPu n (dJ n.pu m.k 0 1 0 m.N).1) hi hpu hf.symm ?_;refine adi hl.1 hl.2.1 ?_ ?_ ?_
   .show(lN (bg n.seen[iE n.seen m.F] m.L) m.I).length<=40
    rw [Co];omega
   .intro x hx;rcases PN.1 hx with rfl|hx
    .exact⟨b1,hI⟩
    .exact ho.2.2.2.1 x hx
   .exact PK ho.2.2.2.2 b2
  .exact ajH
theorem Qc {p:jw->Bool} (h:dY n=true):dY (setOut n (n.out.filter p))=true:=by
 obtain⟨g1,g2,g3,g4,g5,g6⟩:=cu h;obtain⟨o1,o2,o3⟩:=rR g5;refine zR g1 g2 g3 g4 ?_ g6;unfold rQ;have e:(setOut n (n.out.filter p)).out=n.out.filter p:=rfl;rw [e,Kz (f:=λr:jw=>r.i)]
 .simp only[Bool.and_true,decide_eq_true_eq];exact Nat.le_trans (List.length_filter_le _ _) o2
 .intro s hs;exact o3 s (List.mem_filter.1 hs).1
 .exact o1.sublist List.filter_sublist
theorem Fh (h:dw m=true) (hK:m.K=1):1<=m.I/\m.I<=1000000000/\1<=m.L/\m.L<=1000000000/\keyOk m.k.data.toList=true/\1<=m.N/\m.N<=1000000000:=by
 unfold dw at h;simp[hK,fK] at h;refine⟨?_,?_,?_,?_,?_,?_,?_⟩<;>first|omega|simp_all
theorem Jw (h:dw m=true) (hK:m.K=0):keyOk m.k.data.toList=true/\1<=m.N/\m.N<=1000000000:=by
 unfold dw at h;simp[hK,fK] at h;refine⟨?_,?_,?_⟩<;>first|omega|simp_all
theorem Jv (h:dw m=true):m.K=0\/m.K=1\/m.K=2:=by
 unfold dw at h;by_cases h0:m.K=0
 .exact .inl h0
 .by_cases h1:m.K=1
  .exact .inr (.inl h1)
  .by_cases h2:m.K=2
   .exact .inr (.inr h2)
   .exfalso
    simp[h0,h1,h2] at h
theorem X9 (h:dY n=true) (hm:dw m=true) (hd:eF n m.F=true):dY (fZ n m).1=true:=by
 unfold fZ;split
 .rename_i hK
  have hp:=Fh hm hK;exact Yb h hd hp.2.2.2.1 hp.2.1
 .split
  .exact Qc h
  .split
   .rename_i h1 h2 _
    have hK:m.K=0:=by rcases Jv hm with h|h|h<;>omega
    have hp:=Jw hm hK;exact Jz h hd hp.1 hp.2.2
   .exact h
theorem acO (h:dY n=true) (hp:¬n.par= -1):eF n n.par=true:=by
 have:=(qc (cu h).1).2.2;unfold eF;rw [decide_eq_true (show 0<=n.par by omega)];simp
theorem Qf (h:cK o=true) (hK:o.K=0\/o.K=3\/o.K=4):keyOk o.k.data.toList=true/\1<=o.n/\o.n<=1000000000:=by
 unfold cK at h;rw [if_pos hK] at h;simp only[Bool.and_eq_true] at h;have:=h.1.1.2;unfold fK at this;have:=of_decide_eq_true this;exact⟨h.1.1.1,this.1,this.2⟩
theorem Fq (h:cK o=true) (hK:o.K=1):keyOk o.k.data.toList=true/\1<=o.n/\o.n<=1000000000/\1<=o.no/\o.no<=1000000000:=by
 unfold cK at h;rw [if_neg Aaa,if_pos hK] at h;simp only[Bool.and_eq_true] at h;have h1:=h.1.1.2;have h2:=h.1.2;unfold fK at h1 h2;have h1:=of_decide_eq_true h1;have h2:=of_decide_eq_true h2;exact⟨h.1.1.1,h1.1,h1.2,h2.1,h2.2⟩
theorem LJ (h:cK o=true) (hK:o.K=2):1<=o.no/\o.no<=1000000000:=by
 unfold cK at h;rw [if_neg Aaa,if_neg Aaa,if_pos hK] at h;simp only[Bool.and_eq_true] at h;have h2:=h.1.2;unfold fK at h2;exact of_decide_eq_true h2
theorem JD (h:cK o=true) (hK:o.K=6):dw o.m=true:=by
 unfold cK at h;rw [if_neg Aaa,if_neg Aaa,if_neg Aaa,if_neg Aaa,if_pos hK] at h;simp only[Bool.and_eq_true] at h;exact h.2
theorem JE (h:cK o=true):o.K=0\/o.K=1\/o.K=2\/o.K=3\/o.K=4\/o.K=5\/o.K=6:=by
 exact ajZ
theorem Eo (h:xu n o=true) (hK:o.K=6):o.m.T=n.id/\eF n o.m.F=true:=by
 unfold xu at h;simpa [hK] using h
theorem acN (h:dY n=true) (ho:cK o=true) (ha:xu n o=true):dY (fF n o).1=true:=by
 unfold fF;split
 .split
  .exact uj h (rG (cu h).2.1)
  .exact h
 .split
  .rename_i hK
   have hp:=Fq ho hK;exact TU h hp.2.2.2.2 hp.1 (by unfold fK;simp only[decide_eq_true_eq];omega)
  .split
   .exact LC h
   .split
    .split
     .exact h
     .exact h
    .split
     .split
      .exact h
      .rename_i hK hpar
       have hp:=Qf ho Aaa;exact Jz h (acO h hpar) hp.1 hp.2.2
     .split
      .exact h
      .have hK:o.K=6:=by rcases JE ho with h|h|h|h|h|h|h<;>omega
       exact X9 h (JD ho hK) (Eo ha hK).2
theorem acP (h:dY n=true):dY (nD n o).1=true:=by
 unfold nD;split
 .rename_i hc
  rw [Bool.and_eq_true] at hc;exact acN h hc.1 hc.2
 .exact h
theorem VW (h:dY n=true):dY (Zo n o).1=true:=by rw [SH h];exact acP h
end Mth
end Go.Proofs.YtohmklmkjmlpjaaGreatDoor
