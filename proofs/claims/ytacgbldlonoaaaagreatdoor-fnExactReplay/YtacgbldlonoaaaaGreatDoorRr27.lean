/- Parts. -/
import Derived.Test.YtacgbldlonoaaaaGreatDoorRr24
import Derived.Test.YtacgbldlonoaaaaGreatDoorRr21
namespace Go.Proofs.YtacgbldlonoaaaaGreatDoor
open Go.RowKit
open Mth
namespace Mth
theorem CR {α:Type} {p:α->Bool} {f:α->Int} {l:List α} (h:gQ p (λs t=>iA (f s) (f t)) l=true):l.Pairwise (λs t=>f s < f t):=by
 have:=((rJ (p:=p) (r:=λs t=>iA (f s) (f t)) (λa b c h1 h2=>mD _ _ _ h1 h2)).1 h).2;exact this.imp (λh=>Acw)
def setPu (n:Nd) (l:List Pu):Nd:=⟨n.id,n.par,n.kids,n.next,l,n.out,n.seen,n.old,n.reqs⟩
def setOut (n:Nd) (l:List kC):Nd:=⟨n.id,n.par,n.kids,n.next,n.pu,l,n.seen,n.old,n.reqs⟩
def dB (n:Nd) (l:List Sn):Nd:=⟨n.id,n.par,n.kids,n.next,n.pu,n.out,l,n.old,n.reqs⟩
def dS (n:Nd) (l:List Rq):Nd:=⟨n.id,n.par,n.kids,n.next,n.pu,n.out,n.seen,n.old,l⟩
def lJ (n:Nd) (x:Int):Nd:=⟨n.id,n.par,n.kids,n.next,n.pu,n.out,n.seen,x,n.reqs⟩
def abv (n:Nd) (x:Int):Nd:=⟨n.id,n.par,n.kids,x,n.pu,n.out,n.seen,n.old,n.reqs⟩
def nQ (n:Nd) (key:ByteArray) (most:Int):Int:=if (aG n.pu key).f < most then(aG n.pu key).f else most
def Nt (n:Nd) (rE:Int):Bool:=decide (1<=rE/\n.out.length < 40/\n.next < 1000000000)
def qc (n:Nd) (dst:Int) (key:ByteArray) (rE:Int):Nd:=⟨n.id,n.par,n.kids,n.next+1,(dx n.pu key 0 (-1) 0 rE).1,n.out++[⟨n.next,dst,key,rE⟩],n.seen,n.old,n.reqs⟩
def eO (n:Nd) (dst:Int) (key:ByteArray) (most:Int):Nd×List Mg×Bool:=
 if Nt n (nQ n key most)=true then(qc n dst key (nQ n key most),[nI (qc n dst key (nQ n key most)) ⟨n.next,dst,key,nQ n key most⟩],true) else(n,[],false)
def dP (l:List Rq) (no:Int):Nat:=(l.takeWhile (λr=>decide (r.no < no))).length
def mH (l:List Rq) (no:Int):Bool:=(l[dP l no]?).elim false (λr=>decide (r.no=no))
def rV (l:List Rq) (q:Rq):List Rq:=l.take (dP l q.no)++q::l.drop (dP l q.no)
def lF (n:Nd) (q:Rq):Nd:=if 30 < (rV n.reqs q).length then dS (lJ n ((rV n.reqs q).headD default).no) (rV n.reqs q).tail else dS n (rV n.reqs q)
def DZ (r:Rq) (key:ByteArray) (a:Int):Bool:=decide (r.s=0)&&(r.k.toList == key.toList)&&decide (r.n=a)
def fF (n:Nd) (no:Int) (key:ByteArray) (a:Int):Nd×Int:=
 if no<=n.old then(n,2)
 else if mH n.reqs no=true then(n,if DZ (n.reqs.getD (dP n.reqs no) default) key a=true then 0 else 1)
 else(lF (setPu n (dx n.pu key 0 (-1) 1 a).1) ⟨no,key,a,if (dx n.pu key 0 (-1) 1 a).2=true then 0 else 1⟩,if (dx n.pu key 0 (-1) 1 a).2=true then 0 else 1)
def nU (r:Rq):Rq:=⟨r.no,r.k,r.n,2⟩
def bf (n:Nd) (no:Int):Nd×Int:=
 if no<=n.old then(n,2)
 else if mH n.reqs no=false then(n,1)
 else if (n.reqs.getD (dP n.reqs no) default).s=1 then(n,1)
 else if (n.reqs.getD (dP n.reqs no) default).s=2 then(n,0)
 else if (dx n.pu (n.reqs.getD (dP n.reqs no) default).k 0 1 (-1) (n.reqs.getD (dP n.reqs no) default).n).2=true then
  (dS (setPu n (dx n.pu (n.reqs.getD (dP n.reqs no) default).k 0 1 (-1) (n.reqs.getD (dP n.reqs no) default).n).1) (n.reqs.set (dP n.reqs no) (nU (n.reqs.getD (dP n.reqs no) default))),0)
 else(n,1)
def gW (l:List Sn) (f:Int):Nat:=l.findIdx (λs=>decide (s.f=f))
def eH (s:Sn) (low:Int):Int:=if s.l < low then low else s.l
def aY (s:Sn) (low:Int):List Int:=s.ids.filter (λx=>decide (eH s low<=x))
def qH (s:Sn) (low i:Int):Bool:=decide (i < eH s low)||hasB (aY s low) i
def kW (l:List Int) (x:Int):List Int:=l.takeWhile (λy=>decide (y < x))++x::l.dropWhile (λy=>decide (y < x))
def Tp (n:Nd) (m:Mg):Mg:=⟨2,n.id,m.F,m.I,0,ByteArray.empty,0⟩
def lD (n:Nd) (s:Sn) (m:Mg):Bool:=(dx n.pu m.k 0 1 0 m.N).2&&decide ((aY s m.L).length < 40)
def takeN (n:Nd) (m:Mg):Nd×Bool:=
 if qH (n.seen.getD (gW n.seen m.F) default) m.L m.I=true then
  (dB n (n.seen.set (gW n.seen m.F) ⟨m.F,eH (n.seen.getD (gW n.seen m.F) default) m.L,aY (n.seen.getD (gW n.seen m.F) default) m.L⟩),true)
 else if lD n (n.seen.getD (gW n.seen m.F) default) m=true then
  (dB (setPu n (dx n.pu m.k 0 1 0 m.N).1) (n.seen.set (gW n.seen m.F) ⟨m.F,eH (n.seen.getD (gW n.seen m.F) default) m.L,kW (aY (n.seen.getD (gW n.seen m.F) default) m.L) m.I⟩),true)
 else(dB n (n.seen.set (gW n.seen m.F) ⟨m.F,eH (n.seen.getD (gW n.seen m.F) default) m.L,aY (n.seen.getD (gW n.seen m.F) default) m.L⟩),false)
def iK (m:Mg) (s:kC):Bool:=decide (s.i=m.I/\s.t=m.F)
def fG (n:Nd) (m:Mg):Nd×List Mg×Int:=
 if m.K=1 then((takeN n m).1,if (takeN n m).2=true then[Tp n m] else[],if (takeN n m).2=true then 0 else 1)
 else if m.K=2 then(setOut n (n.out.filter (λs=> !iK m s)),[],0)
 else if hasB n.kids m.F=true then((eO n m.F m.k m.N).1,(eO n m.F m.k m.N).2.1,0)
 else(n,[],1)
def Iz (n:Nd) (o:gM):Mg:=⟨0,n.id,n.par,0,0,o.k,o.n⟩
def eZ (n:Nd) (o:gM):Nd×List Mg×Int:=
 if o.K=0 then(if n.par= -1/\(dx n.pu o.k 1 1 0 o.n).2=true then(setPu n (dx n.pu o.k 1 1 0 o.n).1,[],0) else(n,[],1))
 else if o.K=1 then((fF n o.no o.k o.n).1,[],(fF n o.no o.k o.n).2)
 else if o.K=2 then((bf n o.no).1,[],(bf n o.no).2)
 else if o.K=3 then(if n.par= -1 then(n,[],1) else(n,[Iz n o],0))
 else if o.K=4 then(if n.par= -1 then(n,[],1) else((eO n n.par o.k o.n).1,(eO n n.par o.k o.n).2.1,if (eO n n.par o.k o.n).2.2=true then 0 else 1))
 else if o.K=5 then(n,n.out.map (nI n),0)
 else fG n o.m
def vS (n:Nd) (o:gM):Bool:= !decide (o.K=6)||(decide (o.m.T=n.id)&&dV n o.m.F)
def lV (n:Nd) (o:gM):Nd×List Mg×Int:=if bV o&&vS n o then eZ n o else(n,[],3)
def PO (n:Nd) (o:gM):Nd×List Mg×Int:=if dU n then lV n o else(n,[],3)
theorem Ce {n:Nd} {o:gM} (h:dU n=false):PO n o=(n,[],3):=by unfold PO;rw [h];rfl
theorem Jb {n:Nd} {o:gM} (h:dU n=true):PO n o=lV n o:=by unfold PO;rw [h];rfl
theorem bQ {n:Nd} (h:dU n=true):dZ n=true/\iW n.pu=true/\nC n=true/\fD n.next=true/\qO n=true/\gP n=true:=by
 unfold dU at h;simp only[Bool.and_eq_true] at h;exact⟨h.1.1.1.1.1,h.1.1.1.1.2,h.1.1.1.2,h.1.1.2,h.1.2,h.2⟩
theorem iM {n:Nd} (h:gP n=true):n.reqs.Pairwise (λs t=>s.no < t.no)/\n.reqs.length<=30/\(∀q∈n.reqs,qU n q=true)/\0<=n.old/\n.old<=1000000000:=by
 unfold gP at h;simp only[Bool.and_eq_true,decide_eq_true_eq] at h;obtain⟨⟨h1,h2⟩,h3⟩:=h;have h1':0<=n.old/\n.old<=1000000000:=by simpa [pz] using h1
 exact⟨CR (f:=λr:Rq=>r.no) h3,h2,xO h3,h1'.1,h1'.2⟩
theorem qP {n:Nd} (h:qO n=true):n.out.Pairwise (λs t=>s.i < t.i)/\n.out.length<=40/\(∀q∈n.out,tX n q=true):=by
 unfold qO at h;simp only[Bool.and_eq_true,decide_eq_true_eq] at h;exact⟨CR (f:=λr:kC=>r.i) h.2,h.1,xO h.2⟩
theorem jL {n:Nd} {q:Rq} (h:qU n q=true):n.old+1<=q.no/\q.no<=1000000000/\keyOk q.k.data.toList=true/\fD q.n=true/\0<=q.s/\q.s<=2:=by
 unfold qU at h;simp only[Bool.and_eq_true,decide_eq_true_eq] at h;exact⟨h.1.1.1.1,h.1.1.1.2,h.1.1.2,h.1.2,h.2.1,h.2.2⟩
theorem vB (l:List Rq) (no:Int):dP l no<=l.length:=by
 unfold dP;exact(List.takeWhile_sublist _).length_le
theorem wT (l:List Rq) (no:Int):∀i (hi:i < l.length),i < dP l no->l[i].no < no:=by
 induction l with
 |nil=>intro i hi;simp at hi
 |cons x l ih=>
  intro i hi h
  by_cases hx:x.no < no
  .cases i with
   |zero=>exact hx
   |succ i=>
    refine ih i Aap ?_
    unfold dP at h ⊢
    rw [List.takeWhile_cons_of_pos Aaf] at h
    simpa using h
  .unfold dP at h;rw [List.takeWhile_cons_of_neg Aaf] at h;simp at h
theorem wS {l:List Rq} {no:Int} (hp:l.Pairwise (λs t=>s.no < t.no)):∀i (hi:i < l.length),dP l no<=i->no<=l[i].no:=by
 induction l with
 |nil=>intro i hi;simp at hi
 |cons x l ih=>
  intro i hi h
  have hp':=List.pairwise_cons.1 hp
  by_cases hx:x.no < no
  .unfold dP at h;rw [List.takeWhile_cons_of_pos Aaf] at h;simp only[List.length_cons] at h;cases i with
   |zero=>omega
   |succ i=>exact ih hp'.2 i Aap (by unfold dP;omega)
  .cases i with
   |zero=>show no<=x.no;omega
   |succ i=>
    have hi':i < l.length:=Aap
    have:=hp'.1 l[i] (List.getElem_mem hi')
    show no<=l[i].no
    omega
theorem JM {l:List Rq} {no:Int} (hp:l.Pairwise (λs t=>s.no < t.no)) {i:Nat} (hi:i<=l.length) (h1:∀j (hj:j < l.length),j < i->l[j].no < no) (h2:∀j (hj:j < l.length),i<=j->no<=l[j].no):dP l no=i:=by
 have hle:=vB l no;rcases Nat.lt_trichotomy (dP l no) i with h|h|h
 .have a:=h1 (dP l no) Aaa h;have b:=wS (no:=no) hp (dP l no) Aaa (Nat.le_refl _);omega
 .exact h
 .have a:=h2 i Aaa (Nat.le_refl _);have b:=wT l no i Aaa h;omega
theorem nA (l:List Rq) (no:Int):mH l no=true↔∃h:dP l no < l.length,l[dP l no].no=no:=by
 unfold mH;by_cases h:dP l no < l.length
 .rw [List.getElem?_eq_getElem h];simp[h]
 .rw [List.getElem?_eq_none Aaa];simp[h]
theorem NH {l:List Rq} {no:Int} (hp:l.Pairwise (λs t=>s.no < t.no)) {i:Nat} (hi:i < l.length) (h:l[i].no=no):dP l no=i/\mH l no=true:=by
 have e:dP l no=i:=by
  refine JM hp Aaa (λj hj hlt=>?_) (λj hj hle=>?_)
  .have:=List.pairwise_iff_getElem.1 hp j i hj hi hlt;omega
  .rcases Nat.lt_or_ge i j with hlt|hge
   .have:=List.pairwise_iff_getElem.1 hp i j hi hj hlt;omega
   .have e:j=i:=Aaa
    subst e;omega
 refine⟨e,(nA l no).2 ⟨Aaa,?_⟩⟩;subst h;simp[e]
theorem UE {l:List Rq} {no:Int} (h:∀q∈l,q.no≠no):mH l no=false:=by
 rw [Bool.eq_false_iff];intro hf;obtain⟨hi,e⟩:=(nA l no).1 hf;exact h _ (List.getElem_mem hi) e
theorem abo {l:List Pu} {key:ByteArray} {a:Int} (h:iW l=true) (hk:keyOk key.data.toList=true) (h1:1<=a) (h2:a<=(aG l key).f) (h3:a<=1000000000):(dx l key 0 (-1) 0 a).2=true:=by
 rw [IY h ⟨h1,h3⟩];have hp:=wP h hk;have hk':=oq l key
 have hfd:found l key=true:=by
  cases hf:found l key with
  |true=>rfl
  |false=>
   exfalso
   obtain⟨_,hpw,_⟩:=(jJ l).1 h
   have:aG l key=⟨key,0,0,0⟩:=by
    refine JI (λq hq e=>?_);have hq2:=qd hpw hq;rw [e] at hq2;have hx:=LH l key;rw [hf] at hx;have hx:=of_decide_eq_false hx;obtain⟨i,hi,rfl⟩:=List.mem_iff_getElem.1 hq;apply hx
    have hle:=lG l key;by_cases hpl:place l key < l.length
    .refine⟨hpl,?_⟩;have hnl:=zL l key l[place l key] (l.drop (place l key+1)) (by rw [jh,List.drop_eq_getElem_cons hpl]);have hka:uz l key (place l key)=l[place l key].k:=by unfold uz;rw [List.getElem?_eq_getElem hpl];rfl
     rw [hka];rcases Nat.lt_trichotomy (place l key) i with hlt|heq|hgt
     .have:=List.pairwise_iff_getElem.1 hpw _ _ hpl hi hlt;have h4:l[place l key].k.toList < l[i].k.toList:=this;rw [e] at h4;exact absurd h4 hnl
     .subst heq;exact e
     .exact asQ
    .exact asQ
   rw [this] at h2
   dsimp only at h2
   omega
 have hlen:(iP l (eD (aG l key) 0 (-1) 0 a)).length<=20:=by
  have e:(eD (aG l key) 0 (-1) 0 a).k=key:=hk';rw [qQ (by rw [e];exact hfd)];exact((jJ l).1 h).2.2
 have hok:gJ (eD (aG l key) 0 (-1) 0 a)=true:=by
  unfold gJ pz at hp ⊢;unfold eD;simp only[Bool.and_eq_true,decide_eq_true_eq] at hp ⊢;refine⟨⟨⟨⟨hp.1.1.1.1,?_⟩,?_⟩,?_⟩,?_⟩<;>omega
 rw [hok,decide_eq_true hlen];rfl
end Mth
namespace Mth
theorem yD {n:Nd} (h1:dZ n=true) (h2:iW n.pu=true) (h3:nC n=true) (h4:fD n.next=true) (h5:qO n=true) (h6:gP n=true):dU n=true:=by
 unfold dU;rw [h1,h2,h3,h4,h5,h6];rfl
theorem qC {l:List Pu} {key:ByteArray} {dm df ds n:Int} (h:iW l=true):iW (dx l key dm df ds n).1=true:=by
 unfold dx qj;split
 .rename_i hc
  simp only[Bool.and_eq_true] at hc;exact hc.2
 .exact h
theorem rZ {n:Nd} {l:List Pu} (h:dU n=true) (hl:iW l=true):dU (setPu n l)=true:=by
 obtain⟨h1,_,h3,h4,h5,h6⟩:=bQ h;exact yD h1 hl h3 h4 h5 h6
theorem I9 {α:Type} {p:α->Bool} {f:α->Int} {l:List α} (h1:∀x∈l,p x=true) (h2:l.Pairwise (λs t=>f s < f t)):gQ p (λs t=>iA (f s) (f t)) l=true:=
 (rJ (p:=p) (r:=λs t=>iA (f s) (f t)) (λa b c h1 h2=>mD _ _ _ h1 h2)).2 ⟨h1,h2.imp (λh=>Acw)⟩
theorem abu {n:Nd} (h1:0<=n.old) (h2:n.old<=1000000000) (h3:n.reqs.length<=30) (h4:n.reqs.Pairwise (λs t=>s.no < t.no)) (h5:∀q∈n.reqs,qU n q=true):gP n=true:=by
 unfold gP;rw [I9 (f:=λr:Rq=>r.no) h5 h4];simp[pz,h1,h2,h3]
theorem JL {n:Nd} {q:Rq} (h1:n.old < q.no) (h2:q.no<=1000000000) (h3:keyOk q.k.data.toList=true) (h4:fD q.n=true) (h5:0<=q.s) (h6:q.s<=2):qU n q=true:=by
 unfold qU;rw [h3,h4];simp only[Bool.and_true,Bool.and_eq_true,decide_eq_true_eq];omega
theorem MX (l:List Rq) (q:Rq):(rV l q).length=l.length+1:=by
 have:=vB l q.no;unfold rV;simp;omega
theorem YI {l:List Rq} {q r:Rq} (h:r∈rV l q):r=q\/r∈l:=by
 unfold rV at h;rcases List.mem_append.1 h with h|h
 .exact .inr (List.mem_of_mem_take h)
 .rcases List.mem_cons.1 h with h|h
  .exact .inl h
  .exact .inr (List.mem_of_mem_drop h)
theorem YH {l:List Rq} {q:Rq} (hp:l.Pairwise (λs t=>s.no < t.no)) (hf:mH l q.no=false):(rV l q).Pairwise (λs t=>s.no < t.no):=by
 have hlt:∀i (hi:i < l.length),dP l q.no<=i->q.no < l[i].no:=λi hi hle=>by
  have h1:=wS (no:=q.no) hp i hi hle
  rcases Int.lt_or_eq_of_le h1 with h|h
  .exact h
  .have:=(NH hp hi h.symm).2;rw [hf] at this;cases this
 unfold rV;rw [List.pairwise_append,List.pairwise_cons];refine⟨hp.sublist (List.take_sublist _ _),⟨λr hr=>?_,hp.sublist (List.drop_sublist _ _)⟩,λr hr s hs=>?_⟩
 .obtain⟨i,hi,rfl⟩:=List.mem_iff_getElem.1 hr;rw [List.getElem_drop];exact hlt _ _ Aaa
 .obtain⟨i,hi,rfl⟩:=List.mem_iff_getElem.1 hr;rw [List.getElem_take];have hi':i < dP l q.no:=Abn
  have hil:i < l.length:=by have:=vB l q.no;omega
  have h1:=wT l q.no i hil hi';rcases List.mem_cons.1 hs with rfl|hs
  .exact h1
  .obtain⟨j,hj,rfl⟩:=List.mem_iff_getElem.1 hs;rw [List.getElem_drop];have:=hlt (dP l q.no+j) (by simp at hj;omega) Aaa;omega
theorem su {n:Nd} {l:List Rq} {x:Int} (h:dU n=true) (h1:0<=x) (h2:x<=1000000000) (h3:l.length<=30) (h4:l.Pairwise (λs t=>s.no < t.no)) (h5:∀q∈l,qU (lJ n x) q=true):dU (dS (lJ n x) l)=true:=by
 obtain⟨g1,g2,g3,g4,g5,_⟩:=bQ h;exact yD g1 g2 g3 g4 g5 (abu h1 h2 h3 h4 h5)
theorem Uo {n:Nd} {q:Rq} (h:dU n=true) (hf:mH n.reqs q.no=false) (h1:n.old < q.no) (h2:q.no<=1000000000) (h3:keyOk q.k.data.toList=true) (h4:fD q.n=true) (h5:0<=q.s) (h6:q.s<=2):dU (lF n q)=true:=by
 obtain⟨_,_,_,_,_,g6⟩:=bQ h;obtain⟨a1,a2,a3,a4,a5⟩:=iM g6;have hasc:=YH a1 hf;have hlen:=MX n.reqs q
 have hall:∀r∈rV n.reqs q,qU n r=true:=λr hr=>by
  rcases YI hr with rfl|hr
  .exact JL h1 h2 h3 h4 h5 h6
  .exact a3 r hr
 unfold lF;split
 .cases hc:rV n.reqs q with
  |nil=>rw [hc] at hlen;simp at hlen
  |cons r l=>
   rw [hc] at hasc hall hlen
   have hp:=List.pairwise_cons.1 hasc
   have hr:=jL (hall r Aac)
   simp only[List.headD_cons,List.tail_cons]
   refine su h Aaa hr.2.1 (by simp at hlen;omega) hp.2 (λs hs=>?_)
   have b:=jL (hall s (by simp[hs]))
   exact JL (hp.1 s hs) b.2.1 b.2.2.1 b.2.2.2.1 b.2.2.2.2.1 b.2.2.2.2.2
 .rename_i hc
  have e:dS n (rV n.reqs q)=dS (lJ n n.old) (rV n.reqs q):=rfl;rw [e];exact su h a4 a5 Aaa hasc hall
theorem Qp {n:Nd} {no:Int} {key:ByteArray} {a:Int} (h:dU n=true) (h2:no<=1000000000) (h3:keyOk key.data.toList=true) (h4:fD a=true):dU (fF n no key a).1=true:=by
 unfold fF;split
 .exact h
 .split
  .exact h
  .rename_i hs hf
   have hpu:=rZ (l:=(dx n.pu key 0 (-1) 1 a).1) h (qC (bQ h).2.1);refine Uo hpu ?_ ?_ h2 h3 h4 ?_ ?_
   .show mH n.reqs no=false
    simpa using hf
   .show n.old < no
    omega
   .dsimp only;split<;>omega
   .dsimp only;split<;>omega
theorem XQ {l:List Rq} {i:Nat} (hi:i < l.length):l.getD i default=l[i]:=by rw [List.getD_eq_getElem?_getD,List.getElem?_eq_getElem hi];rfl
theorem JC {n:Nd} {no:Int} (h:dU n=true):dU (bf n no).1=true:=by
 unfold bf;split
 .exact h
 .split
  .exact h
  .split
   .exact h
   .split
    .exact h
    .split
     .rename_i hf _ _ hp
      obtain⟨hi,hno⟩:=(nA n.reqs no).1 (by simpa using hf);have hpu:=rZ (l:=(dx n.pu (n.reqs.getD (dP n.reqs no) default).k 0 1 (-1) (n.reqs.getD (dP n.reqs no) default).n).1) h (qC (bQ h).2.1);obtain⟨_,_,_,_,_,g6⟩:=bQ h;obtain⟨a1,a2,a3,a4,a5⟩:=iM g6;rw [XQ hi] at hpu ⊢;have hb:=jL (a3 _ (List.getElem_mem hi));have e:∀l,dS (setPu n l) (n.reqs.set (dP n.reqs no) (nU n.reqs[dP n.reqs no]))=dS (lJ (setPu n l) (setPu n l).old) (n.reqs.set (dP n.reqs no) (nU n.reqs[dP n.reqs no])):=λ_=>rfl
      rw [e];refine su hpu a4 a5 (by simpa using a2) ?_ ?_
      .rw [List.pairwise_iff_getElem] at a1 ⊢;intro i j hi' hj' hij
       have e2:∀k (hk:k < (n.reqs.set (dP n.reqs no) (nU n.reqs[dP n.reqs no])).length),((n.reqs.set (dP n.reqs no) (nU n.reqs[dP n.reqs no]))[k]).no=(n.reqs[k]' Aca).no:=λk hk=>by
        rw [List.getElem_set]
        split
        .rename_i he;subst he;rfl
        .rfl
       rw [e2 i hi',e2 j hj'];exact a1 i j (by simpa using hi') Ach hij
      .intro q hq;rcases List.mem_or_eq_of_mem_set hq with hq|rfl
       .exact a3 q hq
       .exact JL (show n.old < _ by have:=hb.1;simp only[nU];omega) hb.2.1 hb.2.2.1 hb.2.2.2.1 (by simp[nU]) (by simp[nU])
     .exact h
theorem Hr {n:Nd} {dst:Int} {key:ByteArray} {a:Int} (h:dU n=true) (hd:dV n dst=true) (hk:keyOk key.data.toList=true) (ha:a<=1000000000):dU (eO n dst key a).1=true:=by
 unfold eO;split
 .rename_i hp
  obtain⟨g1,g2,g3,g4,g5,g6⟩:=bQ h;obtain⟨o1,o2,o3⟩:=qP g5;unfold Nt at hp;have hp:=of_decide_eq_true hp;have hn:1<=n.next/\n.next<=1000000000:=by simpa [fD] using g4
  have hle:nQ n key a<=1000000000:=by unfold nQ;split<;>omega
  refine yD g1 (qC g2) g3 ?_ ?_ g6
  .show fD (n.next+1)=true
   unfold fD;simp only[decide_eq_true_eq];omega
  .unfold qO;have e:(qc n dst key (nQ n key a)).out=n.out++[⟨n.next,dst,key,nQ n key a⟩]:=rfl;rw [e];rw [I9 (f:=λr:kC=>r.i)]
   .simp;omega
   .intro s hs;have eB:∀s,tX (qc n dst key (nQ n key a)) s=(decide (1<=s.i/\s.i<=n.next+1 - 1)&&dV n s.t&&keyOk s.k.data.toList&&fD s.n):=λ_=>rfl
    rw [eB];rcases List.mem_append.1 hs with hs|hs
    .have:=o3 s hs;unfold tX at this;simp only[Bool.and_eq_true,decide_eq_true_eq] at this ⊢;exact⟨⟨⟨Aaa,this.1.1.2⟩,this.1.2⟩,this.2⟩
    .obtain rfl:s=⟨n.next,dst,key,nQ n key a⟩:=by simpa using hs
     simp only[Bool.and_eq_true,decide_eq_true_eq];refine⟨⟨⟨Aaa,hd⟩,hk⟩,?_⟩;unfold fD;simp only[decide_eq_true_eq];omega
   .rw [List.pairwise_append];refine⟨o1,Aac,λs hs t ht=>?_⟩;obtain rfl:t=⟨n.next,dst,key,nQ n key a⟩:=by simpa using ht
    have:=o3 s hs;unfold tX at this;simp only[Bool.and_eq_true,decide_eq_true_eq] at this;show s.i < n.next
    omega
 .exact h
theorem D6 {n:Nd} (h:dU n=true) {f:Int} (hf:dV n f=true):∃hi:gW n.seen f < n.seen.length,n.seen[gW n.seen f].f=f:=by
 obtain⟨g1,_,g3,_,_,_⟩:=bQ h;rw [vH g1,Bool.and_eq_true,decide_eq_true_eq] at g3;have hm:f∈n.seen.map (·.f):=by rw [g3.1,Kh];exact(DJ g1 f).1 hf
 obtain⟨s,hs,rfl⟩:=List.mem_map.1 hm;have hx:gW n.seen s.f < n.seen.length:=List.findIdx_lt_length_of_exists ⟨s,hs,Aac⟩;exact⟨hx,of_decide_eq_true (List.findIdx_getElem (p:=λt:Sn=>decide (t.f=s.f)) (w:=hx))⟩
theorem yL {n:Nd} (h:dU n=true):∀s∈n.seen,uh s=true:=by
 obtain⟨g1,_,g3,_,_,_⟩:=bQ h;rw [vH g1,Bool.and_eq_true] at g3;exact List.all_eq_true.1 g3.2
theorem rz {s:Sn} (h:uh s=true):1<=s.l/\s.l<=1000000000/\s.ids.length<=40/\(∀x∈s.ids,s.l<=x/\x<=1000000000)/\s.ids.Pairwise (· < ·):=by
 unfold uh at h;simp only[Bool.and_eq_true,decide_eq_true_eq] at h;have h1:1<=s.l/\s.l<=1000000000:=by simpa [fD] using h.1.1
 have h2:=(rJ (p:=zf s.l) (r:=iA) mD).1 h.2;exact⟨h1.1,h1.2,h.1.2,λx hx=>by simpa [zf] using h2.1 x hx,h2.2.imp (λh=>Acw)⟩
theorem Zx {s:Sn} (h1:1<=s.l) (h2:s.l<=1000000000) (h3:s.ids.length<=40) (h4:∀x∈s.ids,s.l<=x/\x<=1000000000) (h5:s.ids.Pairwise (· < ·)):uh s=true:=by
 unfold uh;rw [(rJ (p:=zf s.l) (r:=iA) mD).2 ⟨λx hx=>by simpa [zf] using h4 x hx,h5.imp (λh=>Acw)⟩];simp[fD,h1,h2,h3]
theorem yE {n:Nd} {i:Nat} (hi:i < n.seen.length) {s:Sn} (h:dU n=true) (hf:s.f=n.seen[i].f) (hs:uh s=true):dU (dB n (n.seen.set i s))=true:=by
 obtain⟨g1,g2,g3,g4,g5,g6⟩:=bQ h;refine yD g1 g2 ?_ g4 g5 g6;have g1':dZ (dB n (n.seen.set i s))=true:=g1;rw [vH g1',Bool.and_eq_true,decide_eq_true_eq];rw [vH g1,Bool.and_eq_true,decide_eq_true_eq] at g3;refine⟨?_,?_⟩
 .show(n.seen.set i s).map (·.f)=U9 (pQ n)
  rw [<-g3.1,List.map_set,hf];apply List.ext_getElem?
  intro j;rw [List.getElem?_set];split
  .rename_i e
   subst e;simp[hi]
  .rfl
 .show(n.seen.set i s).all uh=true
  rw [List.all_eq_true];intro x hx;rcases List.mem_or_eq_of_mem_set hx with hx|rfl
  .exact List.all_eq_true.1 g3.2 x hx
  .exact hs
theorem R4 {s:Sn} {low:Int} (h:uh s=true) (h1:low<=1000000000):1<=eH s low/\eH s low<=1000000000/\s.l<=eH s low/\low<=eH s low:=by
 have:=rz h;unfold eH;split<;>omega
theorem Jm {s:Sn} {low:Int} (h:uh s=true) (h1:low<=1000000000):uh ⟨s.f,eH s low,aY s low⟩=true:=by
 have hl:=R4 h h1;obtain⟨a1,a2,a3,a4,a5⟩:=rz h;refine Zx hl.1 hl.2.1 ?_ ?_ ?_
 .exact Nat.le_trans (List.length_filter_le _ _) a3
 .intro x hx;have:=List.mem_filter.1 hx;exact⟨by simpa using this.2,(a4 x this.1).2⟩
 .exact a5.sublist List.filter_sublist
theorem Kk (x:Int):∀(l:List Int),∀y∈l.takeWhile (λy=>decide (y < x)),y < x:=by
 intro l;induction l with
 |nil=>intro y hy;simp at hy
 |cons z l ih=>
  intro y hy
  by_cases hz:z < x
  .rw [List.takeWhile_cons_of_pos Acj] at hy;rcases List.mem_cons.1 hy with rfl|hy
   .exact hz
   .exact ih y hy
  .rw [List.takeWhile_cons_of_neg Acj] at hy;cases hy
theorem xP (x:Int):∀(l:List Int),l.Pairwise (· < ·)->∀y∈l.dropWhile (λy=>decide (y < x)),x<=y:=by
 intro l;induction l with
 |nil=>intro _ y hy;simp at hy
 |cons z l ih=>
  intro hp y hy
  by_cases hz:z < x
  .rw [List.dropWhile_cons_of_pos Acj] at hy;exact ih (List.pairwise_cons.1 hp).2 y hy
  .rw [List.dropWhile_cons_of_neg Acj] at hy;rcases List.mem_cons.1 hy with rfl|hy
   .omega
   .have:=(List.pairwise_cons.1 hp).1 y hy;omega
theorem AL (l:List Int) (x:Int):(kW l x).length=l.length+1:=by
 unfold kW;have:=congrArg List.length (List.takeWhile_append_dropWhile (p:=λy=>decide (y < x)) (l:=l));rw [List.length_append] at this;rw [List.length_append,List.length_cons];omega
theorem MV {l:List Int} {x y:Int}:y∈kW l x↔y=x\/y∈l:=by
 unfold kW;have e:=List.takeWhile_append_dropWhile (p:=λy=>decide (y < x)) (l:=l);constructor
 .intro h;rcases List.mem_append.1 h with h|h
  .exact .inr ((List.takeWhile_sublist _).mem h)
  .rcases List.mem_cons.1 h with h|h
   .exact .inl h
   .exact .inr ((List.dropWhile_sublist _).mem h)
 .rintro(rfl|h)
  .simp
  .rw [<-e] at h;rcases List.mem_append.1 h with h|h
   .exact List.mem_append.2 (.inl h)
   .exact List.mem_append.2 (.inr (List.mem_cons_of_mem _ h))
theorem MR {l:List Int} {x:Int} (hp:l.Pairwise (· < ·)) (hx:x∉l):(kW l x).Pairwise (· < ·):=by
 unfold kW;rw [List.pairwise_append,List.pairwise_cons];refine⟨hp.sublist (List.takeWhile_sublist _),⟨λy hy=>?_,hp.sublist (List.dropWhile_sublist _)⟩,λy hy z hz=>?_⟩
 .have h1:=xP x l hp y hy;have h2:y≠x:=λe=>hx (e▸(List.dropWhile_sublist _).mem hy)
  omega
 .have h1:=Kk x l y hy;rcases List.mem_cons.1 hz with rfl|hz
  .exact h1
  .have h2:=xP x l hp z hz;omega
theorem RH {s:Sn} {low i:Int} (h:qH s low i=false):eH s low<=i/\i∉aY s low:=by
 unfold qH at h;rw [Bool.or_eq_false_iff] at h;refine⟨by simpa using h.1,λhm=>?_⟩;rw [(xU _ _).2 hm] at h;cases h.2
theorem Cm {l:List Sn} {i:Nat} (hi:i < l.length):l.getD i default=l[i]:=by rw [List.getD_eq_getElem?_getD,List.getElem?_eq_getElem hi];rfl
theorem Uq {n:Nd} {m:Mg} (h:dU n=true) (hd:dV n m.F=true) (hL:m.L<=1000000000) (hI:m.I<=1000000000):dU (takeN n m).1=true:=by
 obtain⟨hi,hf⟩:=D6 h hd;have hs:=yL h _ (List.getElem_mem hi);unfold takeN;rw [Cm hi];split
 .exact aeo
 .split
  .rename_i h1 h2
   have h1':qH n.seen[gW n.seen m.F] m.L m.I=false:=Aaq
   obtain⟨b1,b2⟩:=RH h1';have ho:=rz (Jm hs hL);have hl:=R4 hs hL;unfold lD at h2;simp only[Bool.and_eq_true,decide_eq_true_eq] at h2;have hpu:=rZ (l:=(dx n.pu m.k 0 1 0 m.N).1) h (qC (bQ h).2.1);refine yE (n:=setPu n (dx n.pu m.k 0 1 0 m.N).1) hi hpu hf.symm ?_;refine Zx hl.1 hl.2.1 ?_ ?_ ?_
   .show(kW (aY n.seen[gW n.seen m.F] m.L) m.I).length<=40
    rw [AL];omega
   .intro x hx;rcases MV.1 hx with rfl|hx
    .exact⟨b1,hI⟩
    .exact ho.2.2.2.1 x hx
   .exact MR ho.2.2.2.2 b2
  .exact aeo
theorem Ni {n:Nd} {p:kC->Bool} (h:dU n=true):dU (setOut n (n.out.filter p))=true:=by
 obtain⟨g1,g2,g3,g4,g5,g6⟩:=bQ h;obtain⟨o1,o2,o3⟩:=qP g5;refine yD g1 g2 g3 g4 ?_ g6;unfold qO;have e:(setOut n (n.out.filter p)).out=n.out.filter p:=rfl;rw [e,I9 (f:=λr:kC=>r.i)]
 .simp only[Bool.and_true,decide_eq_true_eq];exact Nat.le_trans (List.length_filter_le _ _) o2
 .intro s hs;exact o3 s (List.mem_filter.1 hs).1
 .exact o1.sublist List.filter_sublist
theorem DC {m:Mg} (h:bX m=true) (hK:m.K=1):1<=m.I/\m.I<=1000000000/\1<=m.L/\m.L<=1000000000/\keyOk m.k.data.toList=true/\1<=m.N/\m.N<=1000000000:=by
 unfold bX at h;simp[hK,fD] at h;refine⟨?_,?_,?_,?_,?_,?_,?_⟩<;>first|omega|simp_all
theorem Hl {m:Mg} (h:bX m=true) (hK:m.K=0):keyOk m.k.data.toList=true/\1<=m.N/\m.N<=1000000000:=by
 unfold bX at h;simp[hK,fD] at h;refine⟨?_,?_,?_⟩<;>first|omega|simp_all
theorem Hg {m:Mg} (h:bX m=true):m.K=0\/m.K=1\/m.K=2:=by
 unfold bX at h;by_cases h0:m.K=0
 .exact .inl h0
 .by_cases h1:m.K=1
  .exact .inr (.inl h1)
  .by_cases h2:m.K=2
   .exact .inr (.inr h2)
   .exfalso
    simp[h0,h1,h2] at h
theorem Un {n:Nd} {m:Mg} (h:dU n=true) (hm:bX m=true) (hd:dV n m.F=true):dU (fG n m).1=true:=by
 unfold fG;split
 .rename_i hK
  have hp:=DC hm hK;exact Uq h hd hp.2.2.2.1 hp.2.1
 .split
  .exact Ni h
  .split
   .rename_i h1 h2 _
    have hK:m.K=0:=by rcases Hg hm with h|h|h<;>omega
    have hp:=Hl hm hK;exact Hr h hd hp.1 hp.2.2
   .exact h
theorem Y7 {n:Nd} (h:dU n=true) (hp:¬n.par= -1):dV n n.par=true:=by
 have:=(oI (bQ h).1).2.2;unfold dV;rw [decide_eq_true (show 0<=n.par by omega)];simp
theorem Nk {o:gM} (h:bV o=true) (hK:o.K=0\/o.K=3\/o.K=4):keyOk o.k.data.toList=true/\1<=o.n/\o.n<=1000000000:=by
 unfold bV at h;rw [if_pos hK] at h;simp only[Bool.and_eq_true] at h;have:=h.1.1.2;unfold fD at this;have:=of_decide_eq_true this;exact⟨h.1.1.1,this.1,this.2⟩
theorem DK {o:gM} (h:bV o=true) (hK:o.K=1):keyOk o.k.data.toList=true/\1<=o.n/\o.n<=1000000000/\1<=o.no/\o.no<=1000000000:=by
 unfold bV at h;rw [if_neg Aaa,if_pos hK] at h;simp only[Bool.and_eq_true] at h;have h1:=h.1.1.2;have h2:=h.1.2;unfold fD at h1 h2;have h1:=of_decide_eq_true h1;have h2:=of_decide_eq_true h2;exact⟨h.1.1.1,h1.1,h1.2,h2.1,h2.2⟩
theorem JE {o:gM} (h:bV o=true) (hK:o.K=2):1<=o.no/\o.no<=1000000000:=by
 unfold bV at h;rw [if_neg Aaa,if_neg Aaa,if_pos hK] at h;simp only[Bool.and_eq_true] at h;have h2:=h.1.2;unfold fD at h2;exact of_decide_eq_true h2
theorem Hu {o:gM} (h:bV o=true) (hK:o.K=6):bX o.m=true:=by
 unfold bV at h;rw [if_neg Aaa,if_neg Aaa,if_neg Aaa,if_neg Aaa,if_pos hK] at h;simp only[Bool.and_eq_true] at h;exact h.2
theorem Hw {o:gM} (h:bV o=true):o.K=0\/o.K=1\/o.K=2\/o.K=3\/o.K=4\/o.K=5\/o.K=6:=by
 unfold bV at h;split at h
 .omega
 .split at h
  .omega
  .exact afK
theorem CP {n:Nd} {o:gM} (h:vS n o=true) (hK:o.K=6):o.m.T=n.id/\dV n o.m.F=true:=by
 unfold vS at h;simpa [hK] using h
theorem Y6 {n:Nd} {o:gM} (h:dU n=true) (ho:bV o=true) (ha:vS n o=true):dU (eZ n o).1=true:=by
 unfold eZ;split
 .split
  .exact rZ h (qC (bQ h).2.1)
  .exact h
 .split
  .rename_i hK
   have hp:=DK ho hK;exact Qp h hp.2.2.2.2 hp.1 (by unfold fD;simp only[decide_eq_true_eq];omega)
  .split
   .exact JC h
   .split
    .split
     .exact h
     .exact h
    .split
     .split
      .exact h
      .rename_i hK hpar
       have hp:=Nk ho Aaa;exact Hr h (Y7 h hpar) hp.1 hp.2.2
     .split
      .exact h
      .have hK:o.K=6:=by rcases Hw ho with h|h|h|h|h|h|h<;>omega
       exact Un h (Hu ho hK) (CP ha hK).2
theorem Y8 {n:Nd} {o:gM} (h:dU n=true):dU (lV n o).1=true:=by
 unfold lV;split
 .rename_i hc
  rw [Bool.and_eq_true] at hc;exact Y6 h hc.1 hc.2
 .exact h
theorem R7 {n:Nd} {o:gM} (h:dU n=true):dU (PO n o).1=true:=by rw [Jb h];exact Y8 h
end Mth
end Go.Proofs.YtacgbldlonoaaaaGreatDoor
