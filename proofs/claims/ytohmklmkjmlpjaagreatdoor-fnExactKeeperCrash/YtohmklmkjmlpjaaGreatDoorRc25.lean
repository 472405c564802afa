/- Parts. -/
import Derived.Test.YtohmklmkjmlpjaaGreatDoorRc23
import Derived.Test.YtohmklmkjmlpjaaGreatDoorRc12
namespace Go.Proofs.YtohmklmkjmlpjaaGreatDoor
open Go.Proofs.Tryz
open Go.RowKit
open Mth
variable {n:Nd} {o:gW} {l:List Rq} {s:Sn} {q:Rq} {no a x low:Int} {i:Nat} {m:Mg} {key:ByteArray} {α:Type} {p:α->Bool} {f:α->Int}
namespace Mth
theorem Fe {l:List α} (h:iA p (λs t=>iX (f s) (f t)) l=true):l.Pairwise (λs t=>f s < f t):=by
 have:=((uH (p:=p) (r:=λs t=>iX (f s) (f t)) (λa b c h1 h2=>nL _ _ _ h1 h2)).1 h).2;exact this.imp (λh=>Acw)
def setPu (n:Nd) (l:List Pu):Nd:=⟨n.id,n.par,n.kids,n.next,l,n.out,n.seen,n.old,n.reqs⟩
def setOut (n:Nd) (l:List jM):Nd:=⟨n.id,n.par,n.kids,n.next,n.pu,l,n.seen,n.old,n.reqs⟩
def dM (n:Nd) (l:List Sn):Nd:=⟨n.id,n.par,n.kids,n.next,n.pu,n.out,l,n.old,n.reqs⟩
def eY (n:Nd) (l:List Rq):Nd:=⟨n.id,n.par,n.kids,n.next,n.pu,n.out,n.seen,n.old,l⟩
def pz (n:Nd) (x:Int):Nd:=⟨n.id,n.par,n.kids,n.next,n.pu,n.out,n.seen,x,n.reqs⟩
def af0 (n:Nd) (x:Int):Nd:=⟨n.id,n.par,n.kids,x,n.pu,n.out,n.seen,n.old,n.reqs⟩
def qD (n:Nd) (key:ByteArray) (most:Int):Int:=if (aD n.pu key).f < most then(aD n.pu key).f else most
def QS (n:Nd) (iw:Int):Bool:=decide (1<=iw/\n.out.length < 40/\n.next < 1000000000)
def tJ (n:Nd) (dst:Int) (key:ByteArray) (iw:Int):Nd:=⟨n.id,n.par,n.kids,n.next+1,(dK n.pu key 0 (-1) 0 iw).1,n.out++[⟨n.next,dst,key,iw⟩],n.seen,n.old,n.reqs⟩
def fC (n:Nd) (dst:Int) (key:ByteArray) (most:Int):Nd×List Mg×Bool:=
 if QS n (qD n key most)=true then(tJ n dst key (qD n key most),[qO (tJ n dst key (qD n key most)) ⟨n.next,dst,key,qD n key most⟩],true) else(n,[],false)
def eu (l:List Rq) (no:Int):Nat:=(l.takeWhile (λr=>decide (r.no < no))).length
def oH (l:List Rq) (no:Int):Bool:=(l[eu l no]?).elim false (λr=>decide (r.no=no))
def wI (l:List Rq) (q:Rq):List Rq:=l.take (eu l q.no)++q::l.drop (eu l q.no)
def rM (n:Nd) (q:Rq):Nd:=if 30 < (wI n.reqs q).length then eY (pz n ((wI n.reqs q).headD default).no) (wI n.reqs q).tail else eY n (wI n.reqs q)
def Gp (r:Rq) (key:ByteArray) (a:Int):Bool:=decide (r.s=0)&&(r.k.toList == key.toList)&&decide (r.n=a)
def fQ (n:Nd) (no:Int) (key:ByteArray) (a:Int):Nd×Int:=
 if no<=n.old then(n,2)
 else if oH n.reqs no=true then(n,if Gp (n.reqs.getD (eu n.reqs no) default) key a=true then 0 else 1)
 else(rM (setPu n (dK n.pu key 0 (-1) 1 a).1) ⟨no,key,a,if (dK n.pu key 0 (-1) 1 a).2=true then 0 else 1⟩,if (dK n.pu key 0 (-1) 1 a).2=true then 0 else 1)
def pY (r:Rq):Rq:=⟨r.no,r.k,r.n,2⟩
def bq (n:Nd) (no:Int):Nd×Int:=
 if no<=n.old then(n,2)
 else if oH n.reqs no=false then(n,1)
 else if (n.reqs.getD (eu n.reqs no) default).s=1 then(n,1)
 else if (n.reqs.getD (eu n.reqs no) default).s=2 then(n,0)
 else if (dK n.pu (n.reqs.getD (eu n.reqs no) default).k 0 1 (-1) (n.reqs.getD (eu n.reqs no) default).n).2=true then
  (eY (setPu n (dK n.pu (n.reqs.getD (eu n.reqs no) default).k 0 1 (-1) (n.reqs.getD (eu n.reqs no) default).n).1) (n.reqs.set (eu n.reqs no) (pY (n.reqs.getD (eu n.reqs no) default))),0)
 else(n,1)
def iJ (l:List Sn) (f:Int):Nat:=l.findIdx (λs=>decide (s.f=f))
def fK (s:Sn) (low:Int):Int:=if s.l < low then low else s.l
def aY (s:Sn) (low:Int):List Int:=s.ids.filter (λx=>decide (fK s low<=x))
def sV (s:Sn) (low i:Int):Bool:=decide (i < fK s low)||hasB (aY s low) i
def lX (l:List Int) (x:Int):List Int:=l.takeWhile (λy=>decide (y < x))++x::l.dropWhile (λy=>decide (y < x))
def XZ (n:Nd) (m:Mg):Mg:=⟨2,n.id,m.F,m.I,0,ByteArray.empty,0⟩
def mG (n:Nd) (s:Sn) (m:Mg):Bool:=(dK n.pu m.k 0 1 0 m.N).2&&decide ((aY s m.L).length < 40)
def takeN (n:Nd) (m:Mg):Nd×Bool:=
 if sV (n.seen.getD (iJ n.seen m.F) default) m.L m.I=true then
  (dM n (n.seen.set (iJ n.seen m.F) ⟨m.F,fK (n.seen.getD (iJ n.seen m.F) default) m.L,aY (n.seen.getD (iJ n.seen m.F) default) m.L⟩),true)
 else if mG n (n.seen.getD (iJ n.seen m.F) default) m=true then
  (dM (setPu n (dK n.pu m.k 0 1 0 m.N).1) (n.seen.set (iJ n.seen m.F) ⟨m.F,fK (n.seen.getD (iJ n.seen m.F) default) m.L,lX (aY (n.seen.getD (iJ n.seen m.F) default) m.L) m.I⟩),true)
 else(dM n (n.seen.set (iJ n.seen m.F) ⟨m.F,fK (n.seen.getD (iJ n.seen m.F) default) m.L,aY (n.seen.getD (iJ n.seen m.F) default) m.L⟩),false)
def jg (m:Mg) (s:jM):Bool:=decide (s.i=m.I/\s.t=m.F)
def fT (n:Nd) (m:Mg):Nd×List Mg×Int:=
 if m.K=1 then((takeN n m).1,if (takeN n m).2=true then[XZ n m] else[],if (takeN n m).2=true then 0 else 1)
 else if m.K=2 then(setOut n (n.out.filter (λs=> !jg m s)),[],0)
 else if hasB n.kids m.F=true then((fC n m.F m.k m.N).1,(fC n m.F m.k m.N).2.1,0)
 else(n,[],1)
def Lg (n:Nd) (o:gW):Mg:=⟨0,n.id,n.par,0,0,o.k,o.n⟩
def fG (n:Nd) (o:gW):Nd×List Mg×Int:=
 if o.K=0 then(if n.par= -1/\(dK n.pu o.k 1 1 0 o.n).2=true then(setPu n (dK n.pu o.k 1 1 0 o.n).1,[],0) else(n,[],1))
 else if o.K=1 then((fQ n o.no o.k o.n).1,[],(fQ n o.no o.k o.n).2)
 else if o.K=2 then((bq n o.no).1,[],(bq n o.no).2)
 else if o.K=3 then(if n.par= -1 then(n,[],1) else(n,[Lg n o],0))
 else if o.K=4 then(if n.par= -1 then(n,[],1) else((fC n n.par o.k o.n).1,(fC n n.par o.k o.n).2.1,if (fC n n.par o.k o.n).2.2=true then 0 else 1))
 else if o.K=5 then(n,n.out.map (qO n),0)
 else fT n o.m
def yh (n:Nd) (o:gW):Bool:= !decide (o.K=6)||(decide (o.m.T=n.id)&&eD n o.m.F)
def nR (n:Nd) (o:gW):Nd×List Mg×Int:=if cK o&&yh n o then fG n o else(n,[],3)
def doN (n:Nd) (o:gW):Nd×List Mg×Int:=if eH n then nR n o else(n,[],3)
theorem Md (h:eH n=false):doN n o=(n,[],3):=by unfold doN;rw [h];rfl
theorem TY (h:eH n=true):doN n o=nR n o:=by unfold doN;rw [h];rfl
theorem bZ (h:eH n=true):eO n=true/\jD n.pu=true/\oL n=true/\fO n.next=true/\tC n=true/\iC n=true:=by
 unfold eH at h;simp only[aGl] at h;exact⟨h.1.1.1.1.1,h.1.1.1.1.2,h.1.1.1.2,h.1.1.2,h.1.2,h.2⟩
theorem jk (h:iC n=true):n.reqs.Pairwise (λs t=>s.no < t.no)/\n.reqs.length<=30/\(∀q∈n.reqs,tN n q=true)/\0<=n.old/\n.old<=1000000000:=by
 unfold iC at h;simp only[aGl,aGy] at h;obtain⟨⟨h1,h2⟩,h3⟩:=h;have h1':0<=n.old/\n.old<=1000000000:=by simpa [rz] using h1
 exact⟨Fe (f:=λr:Rq=>r.no) h3,h2,zR h3,h1'.1,h1'.2⟩
theorem tF (h:tC n=true):n.out.Pairwise (λs t=>s.i < t.i)/\n.out.length<=40/\(∀q∈n.out,vW n q=true):=by
 unfold tC at h;simp only[aGl,aGy] at h;exact⟨Fe (f:=λr:jM=>r.i) h.2,h.1,zR h.2⟩
theorem kS (h:tN n q=true):n.old+1<=q.no/\q.no<=1000000000/\keyOk q.k.data.toList=true/\fO q.n=true/\0<=q.s/\q.s<=2:=by
 unfold tN at h;simp only[aGl,aGy] at h;exact⟨h.1.1.1.1,h.1.1.1.2,h.1.1.2,h.1.2,h.2.1,h.2.2⟩
theorem xI (l:List Rq) (no:Int):eu l no<=l.length:=by
 unfold eu;exact(aHH _).length_le
theorem zh (l:List Rq) (no:Int):∀i (hi:i < l.length),i < eu l no->l[i].no < no:=by
 induction l with
 |nil=>intro i hi;simp at hi
 |cons x l ih=>
  intro i hi h;by_cases hx:x.no < no
  .cases i with
   |zero=>exact hx
   |succ i=>
    refine ih i Aao ?_;unfold eu at h ⊢;rw [aH7 Aah] at h;simpa using h
  .unfold eu at h;rw [List.takeWhile_cons_of_neg Aah] at h;simp at h
theorem zf {l:List Rq} {no:Int} (hp:l.Pairwise (λs t=>s.no < t.no)):∀i (hi:i < l.length),eu l no<=i->no<=l[i].no:=by
 induction l with
 |nil=>intro i hi;simp at hi
 |cons x l ih=>
  intro i hi h;have hp':=aGX.1 hp;by_cases hx:x.no < no
  .unfold eu at h;rw [aH7 Aah] at h;simp only[aHt] at h;cases i with
   |zero=>omega
   |succ i=>exact ih hp'.2 i Aao (by unfold eu;omega)
  .cases i with
   |zero=>show no<=x.no;omega
   |succ i=>
    have hi':i < l.length:=Aao
    have:=hp'.1 l[i] (aGz hi');show no<=l[i].no
    omega
theorem Ns (hp:l.Pairwise (λs t=>s.no < t.no)) (hi:i<=l.length) (h1:∀j (hj:j < l.length),j < i->l[j].no < no) (h2:∀j (hj:j < l.length),i<=j->no<=l[j].no):eu l no=i:=by
 have hle:=xI l no;rcases Nat.lt_trichotomy (eu l no) i with h|h|h
 .have a:=h1 (eu l no) Aaa h;have b:=zf (no:=no) hp (eu l no) Aaa (aGh _);omega
 .exact h
 .have a:=h2 i Aaa (aGh _);have b:=zh l no i Aaa h;omega
theorem oI (l:List Rq) (no:Int):oH l no=true↔∃h:eu l no < l.length,l[eu l no].no=no:=by
 unfold oH;by_cases h:eu l no < l.length
 .rw [aGo h];simp[h]
 .rw [List.getElem?_eq_none Aaa];simp[h]
theorem Q5 (hp:l.Pairwise (λs t=>s.no < t.no)) (hi:i < l.length) (h:l[i].no=no):eu l no=i/\oH l no=true:=by
 have e:eu l no=i:=by
  refine Ns hp Aaa (λj hj hlt=>?_) (λj hj hle=>?_)
  .have:=aGZ.1 hp j i hj hi hlt;omega
  .rcases aHa i j with hlt|hge
   .have:=aGZ.1 hp i j hi hj hlt;omega
   .have e:j=i:=Aaa
    subst e;omega
 refine⟨e,(oI l no).2 ⟨Aaa,?_⟩⟩;subst h;simp[e]
theorem Zk (h:∀q∈l,q.no≠no):oH l no=false:=by
 rw [aH0];intro hf;obtain⟨hi,e⟩:=(oI l no).1 hf;exact h _ (aGz hi) e
theorem afU {l:List Pu} (h:jD l=true) (hk:keyOk key.data.toList=true) (h1:1<=a) (h2:a<=(aD l key).f) (h3:a<=1000000000):(dK l key 0 (-1) 0 a).2=true:=by
 rw [LQ h ⟨h1,h3⟩];have hp:=yZ h hk;have hk':=qx l key
 have hfd:found l key=true:=by
  cases hf:found l key with
  |true=>rfl
  |false=>
   exfalso
   obtain⟨_,hpw,_⟩:=(kQ l).1 h
   have:aD l key=⟨key,0,0,0⟩:=by
    refine Nn (λq hq e=>?_);have hq2:=rO hpw hq;rw [e] at hq2;have hx:=Pm l key;rw [hf] at hx;have hx:=of_decide_eq_false hx;obtain⟨i,hi,rfl⟩:=aHm.1 hq;apply hx
    have hle:=mO l key;by_cases hpl:place l key < l.length
    .refine⟨hpl,?_⟩;have hnl:=Ce l key l[place l key] (l.drop (place l key+1)) (by rw [jQ,aG1 hpl]);have hka:wJ l key (place l key)=l[place l key].k:=by unfold wJ;rw [aGo hpl];rfl
     rw [hka];rcases Nat.lt_trichotomy (place l key) i with hlt|heq|hgt
     .have:=aGZ.1 hpw _ _ hpl hi hlt;have h4:l[place l key].k.toList < l[i].k.toList:=this;rw [e] at h4;exact absurd h4 hnl
     .subst heq;exact e
     .exact ais
    .exact ais
   rw [this] at h2;dsimp only at h2;omega
 have hlen:(jr l (eZ (aD l key) 0 (-1) 0 a)).length<=20:=by
  have e:(eZ (aD l key) 0 (-1) 0 a).k=key:=hk';rw [tL (by rw [e];exact hfd)];exact((kQ l).1 h).2.2
 have hok:iI (eZ (aD l key) 0 (-1) 0 a)=true:=by
  unfold iI rz at hp ⊢;unfold eZ;simp only[aGl,aGy] at hp ⊢;refine⟨⟨⟨⟨hp.1.1.1.1,?_⟩,?_⟩,?_⟩,?_⟩<;>omega
 rw [hok,aGk hlen];rfl
end Mth
namespace Mth
theorem AA (h1:eO n=true) (h2:jD n.pu=true) (h3:oL n=true) (h4:fO n.next=true) (h5:tC n=true) (h6:iC n=true):eH n=true:=by
 unfold eH;rw [h1,h2,h3,h4,h5,h6];rfl
theorem sD {l:List Pu} {dm df ds n:Int} (h:jD l=true):jD (dK l key dm df ds n).1=true:=by
 unfold dK rR;split
 .rename_i hc
  simp only[aGl] at hc;exact hc.2
 .exact h
theorem uV {l:List Pu} (h:eH n=true) (hl:jD l=true):eH (setPu n l)=true:=by
 obtain⟨h1,_,h3,h4,h5,h6⟩:=bZ h;exact AA h1 hl h3 h4 h5 h6
theorem Ma {l:List α} (h1:∀x∈l,p x=true) (h2:l.Pairwise (λs t=>f s < f t)):iA p (λs t=>iX (f s) (f t)) l=true:=
 (uH (p:=p) (r:=λs t=>iX (f s) (f t)) (λa b c h1 h2=>nL _ _ _ h1 h2)).2 ⟨h1,h2.imp (λh=>Acw)⟩
theorem afZ (h1:0<=n.old) (h2:n.old<=1000000000) (h3:n.reqs.length<=30) (h4:n.reqs.Pairwise (λs t=>s.no < t.no)) (h5:∀q∈n.reqs,tN n q=true):iC n=true:=by
 unfold iC;rw [Ma (f:=λr:Rq=>r.no) h5 h4];simp[rz,h1,h2,h3]
theorem Nr (h1:n.old < q.no) (h2:q.no<=1000000000) (h3:keyOk q.k.data.toList=true) (h4:fO q.n=true) (h5:0<=q.s) (h6:q.s<=2):tN n q=true:=by
 unfold tN;rw [h3,h4];simp only[Bool.and_true,aGl,aGy];omega
theorem Qq (l:List Rq) (q:Rq):(wI l q).length=l.length+1:=by
 have:=xI l q.no;unfold wI;simp;omega
theorem acX {r:Rq} (h:r∈wI l q):r=q\/r∈l:=by
 unfold wI at h;rcases aGE.1 h with h|h
 .exact .inr (List.mem_of_mem_take h)
 .rcases aGF.1 h with h|h
  .exact .inl h
  .exact .inr (List.mem_of_mem_drop h)
theorem acW (hp:l.Pairwise (λs t=>s.no < t.no)) (hf:oH l q.no=false):(wI l q).Pairwise (λs t=>s.no < t.no):=by
 have hlt:∀i (hi:i < l.length),eu l q.no<=i->q.no < l[i].no:=λi hi hle=>by
  have h1:=zf (no:=q.no) hp i hi hle
  rcases Int.lt_or_eq_of_le h1 with h|h
  .exact h
  .have:=(Q5 hp hi h.symm).2;rw [hf] at this;cases this
 unfold wI;rw [List.pairwise_append,aGX];refine⟨hp.sublist (List.take_sublist _ _),⟨λr hr=>?_,hp.sublist (List.drop_sublist _ _)⟩,λr hr s hs=>?_⟩
 .obtain⟨i,hi,rfl⟩:=aHm.1 hr;rw [List.getElem_drop];exact hlt _ _ Aaa
 .obtain⟨i,hi,rfl⟩:=aHm.1 hr;rw [List.getElem_take];have hi':i < eu l q.no:=Abu
  have hil:i < l.length:=by have:=xI l q.no;omega
  have h1:=zh l q.no i hil hi';rcases aGF.1 hs with rfl|hs
  .exact h1
  .obtain⟨j,hj,rfl⟩:=aHm.1 hs;rw [List.getElem_drop];have:=hlt (eu l q.no+j) (by simp at hj;omega) Aaa;omega
theorem uW (h:eH n=true) (h1:0<=x) (h2:x<=1000000000) (h3:l.length<=30) (h4:l.Pairwise (λs t=>s.no < t.no)) (h5:∀q∈l,tN (pz n x) q=true):eH (eY (pz n x) l)=true:=by
 obtain⟨g1,g2,g3,g4,g5,_⟩:=bZ h;exact AA g1 g2 g3 g4 g5 (afZ h1 h2 h3 h4 h5)
theorem YW (h:eH n=true) (hf:oH n.reqs q.no=false) (h1:n.old < q.no) (h2:q.no<=1000000000) (h3:keyOk q.k.data.toList=true) (h4:fO q.n=true) (h5:0<=q.s) (h6:q.s<=2):eH (rM n q)=true:=by
 obtain⟨_,_,_,_,_,g6⟩:=bZ h;obtain⟨a1,a2,a3,a4,a5⟩:=jk g6;have hasc:=acW a1 hf;have hlen:=Qq n.reqs q
 have hall:∀r∈wI n.reqs q,tN n r=true:=λr hr=>by
  rcases acX hr with rfl|hr
  .exact Nr h1 h2 h3 h4 h5 h6
  .exact a3 r hr
 unfold rM;split
 .cases hc:wI n.reqs q with
  |nil=>rw [hc] at hlen;simp at hlen
  |cons r l=>
   rw [hc] at hasc hall hlen;have hp:=aGX.1 hasc;have hr:=kS (hall r Aac);simp only[List.headD_cons,List.tail_cons];refine uW h Aaa hr.2.1 (by simp at hlen;omega) hp.2 (λs hs=>?_);have b:=kS (hall s (by simp[hs]));exact Nr (hp.1 s hs) b.2.1 b.2.2.1 b.2.2.2.1 b.2.2.2.2.1 b.2.2.2.2.2
 .rename_i hc
  have e:eY n (wI n.reqs q)=eY (pz n n.old) (wI n.reqs q):=rfl;rw [e];exact uW h a4 a5 Aaa hasc hall
theorem UO (h:eH n=true) (h2:no<=1000000000) (h3:keyOk key.data.toList=true) (h4:fO a=true):eH (fQ n no key a).1=true:=by
 unfold fQ;split
 .exact h
 .split
  .exact h
  .rename_i hs hf
   have hpu:=uV (l:=(dK n.pu key 0 (-1) 1 a).1) h (sD (bZ h).2.1);refine YW hpu ?_ ?_ h2 h3 h4 ?_ ?_
   .show oH n.reqs no=false
    simpa using hf
   .show n.old < no
    omega
   .dsimp only;split<;>omega
   .dsimp only;split<;>omega
theorem ab4 (hi:i < l.length):l.getD i default=l[i]:=by rw [aGK,aGo hi];rfl
theorem M9 (h:eH n=true):eH (bq n no).1=true:=by
 unfold bq;split
 .exact h
 .split
  .exact h
  .split
   .exact h
   .split
    .exact h
    .split
     .rename_i hf _ _ hp
      obtain⟨hi,hno⟩:=(oI n.reqs no).1 (by simpa using hf);have hpu:=uV (l:=(dK n.pu (n.reqs.getD (eu n.reqs no) default).k 0 1 (-1) (n.reqs.getD (eu n.reqs no) default).n).1) h (sD (bZ h).2.1);obtain⟨_,_,_,_,_,g6⟩:=bZ h;obtain⟨a1,a2,a3,a4,a5⟩:=jk g6;rw [ab4 hi] at hpu ⊢;have hb:=kS (a3 _ (aGz hi));have e:∀l,eY (setPu n l) (n.reqs.set (eu n.reqs no) (pY n.reqs[eu n.reqs no]))=eY (pz (setPu n l) (setPu n l).old) (n.reqs.set (eu n.reqs no) (pY n.reqs[eu n.reqs no])):=λ_=>rfl
      rw [e];refine uW hpu a4 a5 (by simpa using a2) ?_ ?_
      .rw [aGZ] at a1 ⊢;intro i j hi' hj' hij
       have e2:∀k (hk:k < (n.reqs.set (eu n.reqs no) (pY n.reqs[eu n.reqs no])).length),((n.reqs.set (eu n.reqs no) (pY n.reqs[eu n.reqs no]))[k]).no=(n.reqs[k]' Abn).no:=λk hk=>by
        rw [List.getElem_set]
        split
        .rename_i he;subst he;rfl
        .rfl
       rw [e2 i hi',e2 j hj'];exact a1 i j (by simpa using hi') (by simpa using hj') hij
      .intro q hq;rcases List.mem_or_eq_of_mem_set hq with hq|rfl
       .exact a3 q hq
       .exact Nr (show n.old < _ by have:=hb.1;simp only[pY];omega) hb.2.1 hb.2.2.1 hb.2.2.2.1 (by simp[pY]) (by simp[pY])
     .exact h
theorem Kr {dst:Int} (h:eH n=true) (hd:eD n dst=true) (hk:keyOk key.data.toList=true) (ha:a<=1000000000):eH (fC n dst key a).1=true:=by
 unfold fC;split
 .rename_i hp
  obtain⟨g1,g2,g3,g4,g5,g6⟩:=bZ h;obtain⟨o1,o2,o3⟩:=tF g5;unfold QS at hp;have hp:=aGw hp;have hn:1<=n.next/\n.next<=1000000000:=by simpa [fO] using g4
  have hle:qD n key a<=1000000000:=by unfold qD;split<;>omega
  refine AA g1 (sD g2) g3 ?_ ?_ g6
  .show fO (n.next+1)=true
   unfold fO;simp only[aGy];omega
  .unfold tC;have e:(tJ n dst key (qD n key a)).out=n.out++[⟨n.next,dst,key,qD n key a⟩]:=rfl;rw [e];rw [Ma (f:=λr:jM=>r.i)]
   .simp;omega
   .intro s hs;have eB:∀s,vW (tJ n dst key (qD n key a)) s=(decide (1<=s.i/\s.i<=n.next+1 - 1)&&eD n s.t&&keyOk s.k.data.toList&&fO s.n):=λ_=>rfl
    rw [eB];rcases aGE.1 hs with hs|hs
    .have:=o3 s hs;unfold vW at this;simp only[aGl,aGy] at this ⊢;exact⟨⟨⟨Aaa,this.1.1.2⟩,this.1.2⟩,this.2⟩
    .obtain rfl:s=⟨n.next,dst,key,qD n key a⟩:=by simpa using hs
     simp only[aGl,aGy];refine⟨⟨⟨Aaa,hd⟩,hk⟩,?_⟩;unfold fO;simp only[aGy];omega
   .rw [List.pairwise_append];refine⟨o1,Aac,λs hs t ht=>?_⟩;obtain rfl:t=⟨n.next,dst,key,qD n key a⟩:=by simpa using ht
    have:=o3 s hs;unfold vW at this;simp only[aGl,aGy] at this;show s.i < n.next
    omega
 .exact h
theorem Gq (h:eH n=true) {f:Int} (hf:eD n f=true):∃hi:iJ n.seen f < n.seen.length,n.seen[iJ n.seen f].f=f:=by
 obtain⟨g1,_,g3,_,_,_⟩:=bZ h;rw [xM g1,aGl,aGy] at g3;have hm:f∈n.seen.map (·.f):=by rw [g3.1,NW];exact(Ga g1 f).1 hf
 obtain⟨s,hs,rfl⟩:=aHQ.1 hm;have hx:iJ n.seen s.f < n.seen.length:=List.findIdx_lt_length_of_exists ⟨s,hs,Aac⟩;exact⟨hx,aGw (aIb (p:=λt:Sn=>decide (t.f=s.f)) (w:=hx))⟩
theorem AV (h:eH n=true):∀s∈n.seen,wu s=true:=by
 obtain⟨g1,_,g3,_,_,_⟩:=bZ h;rw [xM g1,aGl] at g3;exact aHX.1 g3.2
theorem uh (h:wu s=true):1<=s.l/\s.l<=1000000000/\s.ids.length<=40/\(∀x∈s.ids,s.l<=x/\x<=1000000000)/\s.ids.Pairwise (· < ·):=by
 unfold wu at h;simp only[aGl,aGy] at h;have h1:1<=s.l/\s.l<=1000000000:=by simpa [fO] using h.1.1
 have h2:=(uH (p:=Cj s.l) (r:=iX) nL).1 h.2;exact⟨h1.1,h1.2,h.1.2,λx hx=>by simpa [Cj] using h2.1 x hx,h2.2.imp (λh=>Acw)⟩
theorem adO (h1:1<=s.l) (h2:s.l<=1000000000) (h3:s.ids.length<=40) (h4:∀x∈s.ids,s.l<=x/\x<=1000000000) (h5:s.ids.Pairwise (· < ·)):wu s=true:=by
 unfold wu;rw [(uH (p:=Cj s.l) (r:=iX) nL).2 ⟨λx hx=>by simpa [Cj] using h4 x hx,h5.imp (λh=>Acw)⟩];simp[fO,h1,h2,h3]
theorem AJ (hi:i < n.seen.length) (h:eH n=true) (hf:s.f=n.seen[i].f) (hs:wu s=true):eH (dM n (n.seen.set i s))=true:=by
 obtain⟨g1,g2,g3,g4,g5,g6⟩:=bZ h;refine AA g1 g2 ?_ g4 g5 g6;have g1':eO (dM n (n.seen.set i s))=true:=g1;rw [xM g1',aGl,aGy];rw [xM g1,aGl,aGy] at g3;refine⟨?_,?_⟩
 .show(n.seen.set i s).map (·.f)=ZF (rC n)
  rw [<-g3.1,List.map_set,hf];apply List.ext_getElem?
  intro j;rw [List.getElem?_set];split
  .rename_i e
   subst e;simp[hi]
  .rfl
 .show(n.seen.set i s).all wu=true
  rw [aHX];intro x hx;rcases List.mem_or_eq_of_mem_set hx with hx|rfl
  .exact aHX.1 g3.2 x hx
  .exact hs
theorem WY (h:wu s=true) (h1:low<=1000000000):1<=fK s low/\fK s low<=1000000000/\s.l<=fK s low/\low<=fK s low:=by
 have:=uh h;unfold fK;split<;>omega
theorem Mx (h:wu s=true) (h1:low<=1000000000):wu ⟨s.f,fK s low,aY s low⟩=true:=by
 have hl:=WY h h1;obtain⟨a1,a2,a3,a4,a5⟩:=uh h;refine adO hl.1 hl.2.1 ?_ ?_ ?_
 .exact aGm (aH9 _ _) a3
 .intro x hx;have:=aIc.1 hx;exact⟨by simpa using this.2,(a4 x this.1).2⟩
 .exact a5.sublist List.filter_sublist
theorem N9 (x:Int):∀(l:List Int),∀y∈l.takeWhile (λy=>decide (y < x)),y < x:=by
 intro l;induction l with
 |nil=>intro y hy;simp at hy
 |cons z l ih=>
  intro y hy;by_cases hz:z < x
  .rw [aH7 Ack] at hy;rcases aGF.1 hy with rfl|hy
   .exact hz
   .exact ih y hy
  .rw [List.takeWhile_cons_of_neg Ack] at hy;cases hy
theorem zT (x:Int):∀(l:List Int),l.Pairwise (· < ·)->∀y∈l.dropWhile (λy=>decide (y < x)),x<=y:=by
 intro l;induction l with
 |nil=>intro _ y hy;simp at hy
 |cons z l ih=>
  intro hp y hy;by_cases hz:z < x
  .rw [List.dropWhile_cons_of_pos Ack] at hy;exact ih (aGX.1 hp).2 y hy
  .rw [List.dropWhile_cons_of_neg Ack] at hy;rcases aGF.1 hy with rfl|hy
   .omega
   .have:=(aGX.1 hp).1 y hy;omega
theorem Db (l:List Int) (x:Int):(lX l x).length=l.length+1:=by
 unfold lX;have:=congrArg List.length (aHT (p:=λy=>decide (y < x)) (l:=l));rw [aGp] at this;rw [aGp,aHt];omega
theorem Qo {l:List Int} {y:Int}:y∈lX l x↔y=x\/y∈l:=by
 unfold lX;have e:=aHT (p:=λy=>decide (y < x)) (l:=l);constructor
 .intro h;rcases aGE.1 h with h|h
  .exact .inr ((aHH _).mem h)
  .rcases aGF.1 h with h|h
   .exact .inl h
   .exact .inr ((aHz _).mem h)
 .rintro(rfl|h)
  .simp
  .rw [<-e] at h;rcases aGE.1 h with h|h
   .exact aGE.2 (.inl h)
   .exact aGE.2 (.inr (aHY _ h))
theorem Qn {l:List Int} (hp:l.Pairwise (· < ·)) (hx:x∉l):(lX l x).Pairwise (· < ·):=by
 unfold lX;rw [List.pairwise_append,aGX];refine⟨hp.sublist (aHH _),⟨λy hy=>?_,hp.sublist (aHz _)⟩,λy hy z hz=>?_⟩
 .have h1:=zT x l hp y hy;have h2:y≠x:=λe=>hx (e▸(aHz _).mem hy)
  omega
 .have h1:=N9 x l y hy;rcases aGF.1 hz with rfl|hz
  .exact h1
  .have h2:=zT x l hp z hz;omega
theorem WQ {i:Int} (h:sV s low i=false):fK s low<=i/\i∉aY s low:=by
 unfold sV at h;rw [Bool.or_eq_false_iff] at h;refine⟨by simpa using h.1,λhm=>?_⟩;rw [(zZ _ _).2 hm] at h;cases h.2
theorem Ew {l:List Sn} (hi:i < l.length):l.getD i default=l[i]:=by rw [aGK,aGo hi];rfl
theorem YX (h:eH n=true) (hd:eD n m.F=true) (hL:m.L<=1000000000) (hI:m.I<=1000000000):eH (takeN n m).1=true:=by
 obtain⟨hi,hf⟩:=Gq h hd;have hs:=AV h _ (aGz hi);unfold takeN;rw [Ew hi];split
 .exact ajy
 .split
  .rename_i h1 h2
   have h1':sV n.seen[iJ n.seen m.F] m.L m.I=false:=Aax
   obtain⟨b1,b2⟩:=WQ h1';have ho:=uh (Mx hs hL);have hl:=WY hs hL;unfold mG at h2;simp only[aGl,aGy] at h2;have hpu:=uV (l:=(dK n.pu m.k 0 1 0 m.N).1) h (sD (bZ h).2.1);refine AJ (n:=setPu n (dK n.pu m.k 0 1 0 m.N).1) hi hpu hf.symm ?_;refine adO hl.1 hl.2.1 ?_ ?_ ?_
   .show(lX (aY n.seen[iJ n.seen m.F] m.L) m.I).length<=40
    rw [Db];omega
   .intro x hx;rcases Qo.1 hx with rfl|hx
    .exact⟨b1,hI⟩
    .exact ho.2.2.2.1 x hx
   .exact Qn ho.2.2.2.2 b2
  .exact ajy
theorem QD {p:jM->Bool} (h:eH n=true):eH (setOut n (n.out.filter p))=true:=by
 obtain⟨g1,g2,g3,g4,g5,g6⟩:=bZ h;obtain⟨o1,o2,o3⟩:=tF g5;refine AA g1 g2 g3 g4 ?_ g6;unfold tC;have e:(setOut n (n.out.filter p)).out=n.out.filter p:=rfl;rw [e,Ma (f:=λr:jM=>r.i)]
 .simp only[Bool.and_true,aGy];exact aGm (aH9 _ _) o2
 .intro s hs;exact o3 s (aIc.1 hs).1
 .exact o1.sublist List.filter_sublist
theorem F8 (h:cZ m=true) (hK:m.K=1):1<=m.I/\m.I<=1000000000/\1<=m.L/\m.L<=1000000000/\keyOk m.k.data.toList=true/\1<=m.N/\m.N<=1000000000:=by
 unfold cZ at h;simp[hK,fO] at h;refine⟨?_,?_,?_,?_,?_,?_,?_⟩<;>first|omega|simp_all
theorem Kn (h:cZ m=true) (hK:m.K=0):keyOk m.k.data.toList=true/\1<=m.N/\m.N<=1000000000:=by
 unfold cZ at h;simp[hK,fO] at h;refine⟨?_,?_,?_⟩<;>first|omega|simp_all
theorem Kl (h:cZ m=true):m.K=0\/m.K=1\/m.K=2:=by
 unfold cZ at h;by_cases h0:m.K=0
 .exact .inl h0
 .by_cases h1:m.K=1
  .exact .inr (.inl h1)
  .by_cases h2:m.K=2
   .exact .inr (.inr h2)
   .exfalso
    simp[h0,h1,h2] at h
theorem YV (h:eH n=true) (hm:cZ m=true) (hd:eD n m.F=true):eH (fT n m).1=true:=by
 unfold fT;split
 .rename_i hK
  have hp:=F8 hm hK;exact YX h hd hp.2.2.2.1 hp.2.1
 .split
  .exact QD h
  .split
   .rename_i h1 h2 _
    have hK:m.K=0:=by rcases Kl hm with h|h|h<;>omega
    have hp:=Kn hm hK;exact Kr h hd hp.1 hp.2.2
   .exact h
theorem adp (h:eH n=true) (hp:¬n.par= -1):eD n n.par=true:=by
 have:=(qP (bZ h).1).2.2;unfold eD;rw [aGk (show 0<=n.par by omega)];simp
theorem QG (h:cK o=true) (hK:o.K=0\/o.K=3\/o.K=4):keyOk o.k.data.toList=true/\1<=o.n/\o.n<=1000000000:=by
 unfold cK at h;rw [aGC hK] at h;simp only[aGl] at h;have:=h.1.1.2;unfold fO at this;have:=aGw this;exact⟨h.1.1.1,this.1,this.2⟩
theorem Gb (h:cK o=true) (hK:o.K=1):keyOk o.k.data.toList=true/\1<=o.n/\o.n<=1000000000/\1<=o.no/\o.no<=1000000000:=by
 unfold cK at h;rw [aGr Aaa,aGC hK] at h;simp only[aGl] at h;have h1:=h.1.1.2;have h2:=h.1.2;unfold fO at h1 h2;have h1:=aGw h1;have h2:=aGw h2;exact⟨h.1.1.1,h1.1,h1.2,h2.1,h2.2⟩
theorem Ng (h:cK o=true) (hK:o.K=2):1<=o.no/\o.no<=1000000000:=by
 unfold cK at h;rw [aGr Aaa,aGr Aaa,aGC hK] at h;simp only[aGl] at h;have h2:=h.1.2;unfold fO at h2;exact aGw h2
theorem Kv (h:cK o=true) (hK:o.K=6):cZ o.m=true:=by
 unfold cK at h;rw [aGr Aaa,aGr Aaa,aGr Aaa,aGr Aaa,aGC hK] at h;simp only[aGl] at h;exact h.2
theorem Kw (h:cK o=true):o.K=0\/o.K=1\/o.K=2\/o.K=3\/o.K=4\/o.K=5\/o.K=6:=by
 exact ajS
theorem E8 (h:yh n o=true) (hK:o.K=6):o.m.T=n.id/\eD n o.m.F=true:=by
 unfold yh at h;simpa [hK] using h
theorem ado (h:eH n=true) (ho:cK o=true) (ha:yh n o=true):eH (fG n o).1=true:=by
 unfold fG;split
 .split
  .exact uV h (sD (bZ h).2.1)
  .exact h
 .split
  .rename_i hK
   have hp:=Gb ho hK;exact UO h hp.2.2.2.2 hp.1 (by unfold fO;simp only[aGy];omega)
  .split
   .exact M9 h
   .split
    .split
     .exact h
     .exact h
    .split
     .split
      .exact h
      .rename_i hK hpar
       have hp:=QG ho Aaa;exact Kr h (adp h hpar) hp.1 hp.2.2
     .split
      .exact h
      .have hK:o.K=6:=by rcases Kw ho with h|h|h|h|h|h|h<;>omega
       exact YV h (Kv ho hK) (E8 ha hK).2
theorem adq (h:eH n=true):eH (nR n o).1=true:=by
 unfold nR;split
 .rename_i hc
  rw [aGl] at hc;exact ado h hc.1 hc.2
 .exact h
theorem Xg (h:eH n=true):eH (doN n o).1=true:=by rw [TY h];exact adq h
end Mth
end Go.Proofs.YtohmklmkjmlpjaaGreatDoor
