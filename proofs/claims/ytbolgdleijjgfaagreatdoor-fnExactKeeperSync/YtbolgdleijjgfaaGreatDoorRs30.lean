/- Parts. -/
import Derived.Test.YtbolgdleijjgfaaGreatDoorRs16
import Derived.Test.YtbolgdleijjgfaaGreatDoorRs26
import Derived.Test.YtbolgdleijjgfaaGreatDoorRs29
namespace Go.Proofs.YtbolgdleijjgfaaGreatDoor
open Go.Proofs.Tryz
set_option maxHeartbeats 2000000
open Go.RowKit
open Mth
variable {n:Nd} {o:gJ} {l:List Rq} {s:Sn} {q:Rq} {no a x low:Int} {i:Nat} {m:Mg} {key:ByteArray} {α:Type} {p:α->Bool} {f:α->Int}
namespace Mth
theorem EX {l:List α} (h:gV p (λs t=>iL (f s) (f t)) l=true):l.Pairwise (λs t=>f s < f t):=by
 grind [iL,uG,nI]
def setPu (n:Nd) (l:List Pu):Nd:=⟨n.id,n.par,n.kids,n.next,l,n.out,n.seen,n.old,n.reqs⟩
def setOut (n:Nd) (l:List jC):Nd:=⟨n.id,n.par,n.kids,n.next,n.pu,l,n.seen,n.old,n.reqs⟩
def dU (n:Nd) (l:List Sn):Nd:=⟨n.id,n.par,n.kids,n.next,n.pu,n.out,l,n.old,n.reqs⟩
def eO (n:Nd) (l:List Rq):Nd:=⟨n.id,n.par,n.kids,n.next,n.pu,n.out,n.seen,n.old,l⟩
def oW (n:Nd) (x:Int):Nd:=⟨n.id,n.par,n.kids,n.next,n.pu,n.out,n.seen,x,n.reqs⟩
def afQ (n:Nd) (x:Int):Nd:=⟨n.id,n.par,n.kids,x,n.pu,n.out,n.seen,n.old,n.reqs⟩
def rC (n:Nd) (key:ByteArray) (most:Int):Int:=if (aD n.pu key).f < most then(aD n.pu key).f else most
def QG (n:Nd) (gP:Int):Bool:=decide (1<=gP/\n.out.length < 40/\n.next < 1000000000)
def tu (n:Nd) (dst:Int) (key:ByteArray) (gP:Int):Nd:=⟨n.id,n.par,n.kids,n.next+1,(dw n.pu key 0 (-1) 0 gP).1,n.out++[⟨n.next,dst,key,gP⟩],n.seen,n.old,n.reqs⟩
def eY (n:Nd) (dst:Int) (key:ByteArray) (most:Int):Nd×List Mg×Bool:=
 if QG n (rC n key most)=true then(tu n dst key (rC n key most),[qE (tu n dst key (rC n key most)) ⟨n.next,dst,key,rC n key most⟩],true) else(n,[],false)
def dW (l:List Rq) (no:Int):Nat:=(l.takeWhile (λr=>decide (r.no < no))).length
def oq (l:List Rq) (no:Int):Bool:=(l[dW l no]?).elim false (λr=>decide (r.no=no))
def wK (l:List Rq) (q:Rq):List Rq:=l.take (dW l q.no)++q::l.drop (dW l q.no)
def rJ (n:Nd) (q:Rq):Nd:=if 30 < (wK n.reqs q).length then eO (oW n ((wK n.reqs q).headD default).no) (wK n.reqs q).tail else eO n (wK n.reqs q)
def Gp (r:Rq) (key:ByteArray) (a:Int):Bool:=decide (r.s=0)&&(r.k.toList == key.toList)&&decide (r.n=a)
def fK (n:Nd) (no:Int) (key:ByteArray) (a:Int):Nd×Int:=
 if no<=n.old then(n,2)
 else if oq n.reqs no=true then(n,if Gp (n.reqs.getD (dW n.reqs no) default) key a=true then 0 else 1)
 else(rJ (setPu n (dw n.pu key 0 (-1) 1 a).1) ⟨no,key,a,if (dw n.pu key 0 (-1) 1 a).2=true then 0 else 1⟩,if (dw n.pu key 0 (-1) 1 a).2=true then 0 else 1)
def pX (r:Rq):Rq:=⟨r.no,r.k,r.n,2⟩
def aT (n:Nd) (no:Int):Nd×Int:=
 if no<=n.old then(n,2)
 else if oq n.reqs no=false then(n,1)
 else if (n.reqs.getD (dW n.reqs no) default).s=1 then(n,1)
 else if (n.reqs.getD (dW n.reqs no) default).s=2 then(n,0)
 else if (dw n.pu (n.reqs.getD (dW n.reqs no) default).k 0 1 (-1) (n.reqs.getD (dW n.reqs no) default).n).2=true then
  (eO (setPu n (dw n.pu (n.reqs.getD (dW n.reqs no) default).k 0 1 (-1) (n.reqs.getD (dW n.reqs no) default).n).1) (n.reqs.set (dW n.reqs no) (pX (n.reqs.getD (dW n.reqs no) default))),0)
 else(n,1)
def iN (l:List Sn) (f:Int):Nat:=l.findIdx (λs=>decide (s.f=f))
def fQ (s:Sn) (low:Int):Int:=if s.l < low then low else s.l
def bX (s:Sn) (low:Int):List Int:=s.ids.filter (λx=>decide (fQ s low<=x))
def sQ (s:Sn) (low i:Int):Bool:=decide (i < fQ s low)||hasB (bX s low) i
def lq (l:List Int) (x:Int):List Int:=l.takeWhile (λy=>decide (y < x))++x::l.dropWhile (λy=>decide (y < x))
def XY (n:Nd) (m:Mg):Mg:=⟨2,n.id,m.F,m.I,0,ByteArray.empty,0⟩
def lY (n:Nd) (s:Sn) (m:Mg):Bool:=(dw n.pu m.k 0 1 0 m.N).2&&decide ((bX s m.L).length < 40)
def takeN (n:Nd) (m:Mg):Nd×Bool:=
 if sQ (n.seen.getD (iN n.seen m.F) default) m.L m.I=true then
  (dU n (n.seen.set (iN n.seen m.F) ⟨m.F,fQ (n.seen.getD (iN n.seen m.F) default) m.L,bX (n.seen.getD (iN n.seen m.F) default) m.L⟩),true)
 else if lY n (n.seen.getD (iN n.seen m.F) default) m=true then
  (dU (setPu n (dw n.pu m.k 0 1 0 m.N).1) (n.seen.set (iN n.seen m.F) ⟨m.F,fQ (n.seen.getD (iN n.seen m.F) default) m.L,lq (bX (n.seen.getD (iN n.seen m.F) default) m.L) m.I⟩),true)
 else(dU n (n.seen.set (iN n.seen m.F) ⟨m.F,fQ (n.seen.getD (iN n.seen m.F) default) m.L,bX (n.seen.getD (iN n.seen m.F) default) m.L⟩),false)
def iQ (m:Mg) (s:jC):Bool:=decide (s.i=m.I/\s.t=m.F)
def fO (n:Nd) (m:Mg):Nd×List Mg×Int:=
 if m.K=1 then((takeN n m).1,if (takeN n m).2=true then[XY n m] else[],if (takeN n m).2=true then 0 else 1)
 else if m.K=2 then(setOut n (n.out.filter (λs=> !iQ m s)),[],0)
 else if hasB n.kids m.F=true then((eY n m.F m.k m.N).1,(eY n m.F m.k m.N).2.1,0)
 else(n,[],1)
def KW (n:Nd) (o:gJ):Mg:=⟨0,n.id,n.par,0,0,o.k,o.n⟩
def fD (n:Nd) (o:gJ):Nd×List Mg×Int:=
 if o.K=0 then(if n.par= -1/\(dw n.pu o.k 1 1 0 o.n).2=true then(setPu n (dw n.pu o.k 1 1 0 o.n).1,[],0) else(n,[],1))
 else if o.K=1 then((fK n o.no o.k o.n).1,[],(fK n o.no o.k o.n).2)
 else if o.K=2 then((aT n o.no).1,[],(aT n o.no).2)
 else if o.K=3 then(if n.par= -1 then(n,[],1) else(n,[KW n o],0))
 else if o.K=4 then(if n.par= -1 then(n,[],1) else((eY n n.par o.k o.n).1,(eY n n.par o.k o.n).2.1,if (eY n n.par o.k o.n).2.2=true then 0 else 1))
 else if o.K=5 then(n,n.out.map (qE n),0)
 else fO n o.m
def yB (n:Nd) (o:gJ):Bool:= !decide (o.K=6)||(decide (o.m.T=n.id)&&dV n o.m.F)
def nN (n:Nd) (o:gJ):Nd×List Mg×Int:=if bH o&&yB n o then fD n o else(n,[],3)
def doN (n:Nd) (o:gJ):Nd×List Mg×Int:=if dR n then nN n o else(n,[],3)
theorem LK (h:dR n=false):doN n o=(n,[],3):=by unfold doN;rw [h];rfl
theorem TG (h:dR n=true):doN n o=nN n o:=by unfold doN;rw [h];rfl
theorem bE (h:dR n=true):eu n=true/\jm n.pu=true/\oC n=true/\fH n.next=true/\sW n=true/\gX n=true:=by
 unfold dR at h;simp only[aES] at h;exact⟨h.1.1.1.1.1,h.1.1.1.1.2,h.1.1.1.2,h.1.1.2,h.1.2,h.2⟩
theorem iT (h:gX n=true):n.reqs.Pairwise (λs t=>s.no < t.no)/\n.reqs.length<=30/\(∀q∈n.reqs,tK n q=true)/\0<=n.old/\n.old<=1000000000:=by
 unfold gX at h;simp only[aES,aFa] at h;obtain⟨⟨h1,h2⟩,h3⟩:=h;have h1':0<=n.old/\n.old<=1000000000:=by simpa [rA] using h1
 exact⟨EX (f:=λr:Rq=>r.no) h3,h2,zX h3,h1'.1,h1'.2⟩
theorem sZ (h:sW n=true):n.out.Pairwise (λs t=>s.i < t.i)/\n.out.length<=40/\(∀q∈n.out,wN n q=true):=by
 unfold sW at h;simp only[aES,aFa] at h;exact⟨EX (f:=λr:jC=>r.i) h.2,h.1,zX h.2⟩
theorem jY (h:tK n q=true):n.old+1<=q.no/\q.no<=1000000000/\keyOk q.k.data.toList=true/\fH q.n=true/\0<=q.s/\q.s<=2:=by
 grind [tK]
theorem xM (l:List Rq) (no:Int):dW l no<=l.length:=by
 unfold dW;exact(aGg _).length_le
theorem zm (l:List Rq) (no:Int):∀i (hi:i < l.length),i < dW l no->l[i].no < no:=by
 induction l with
 |nil=>intro i hi;simp at hi
 |cons x l ih=>
  intro i hi h;by_cases hx:x.no < no
  .grind [dW,List.takeWhile_cons_of_pos]
  .grind [dW,List.takeWhile_cons_of_neg]
theorem zl {l:List Rq} {no:Int} (hp:l.Pairwise (λs t=>s.no < t.no)):∀i (hi:i < l.length),dW l no<=i->no<=l[i].no:=by
 induction l with
 |nil=>intro i hi;simp at hi
 |cons x l ih=>
  intro i hi h;have hp':=aFM.1 hp;by_cases hx:x.no < no
  .grind [dW,List.length_cons,List.takeWhile_cons_of_pos]
  .grind
theorem Ng (hp:l.Pairwise (λs t=>s.no < t.no)) (hi:i<=l.length) (h1:∀j (hj:j < l.length),j < i->l[j].no < no) (h2:∀j (hj:j < l.length),i<=j->no<=l[j].no):dW l no=i:=by
 have hle:=xM l no;rcases Nat.lt_trichotomy (dW l no) i with h|h|h
 .grind [dW,zl]
 .exact h
 .have a:=h2 i Aaa (aEM _);have b:=zm l no i Aaa h;omega
theorem ou (l:List Rq) (no:Int):oq l no=true↔∃h:dW l no < l.length,l[dW l no].no=no:=by
 grind [oq,dW]
theorem QT (hp:l.Pairwise (λs t=>s.no < t.no)) (hi:i < l.length) (h:l[i].no=no):dW l no=i/\oq l no=true:=by
 have e:dW l no=i:=by
  refine Ng hp Aaa (λj hj hlt=>?_) (λj hj hle=>?_)
  .have:=aFQ.1 hp j i hj hi hlt;omega
  .grind [List.pairwise_iff_getElem,Nat.lt_or_ge]
 grind [ou]
theorem Zi (h:∀q∈l,q.no≠no):oq l no=false:=by
 grind [ou]
theorem afJ {l:List Pu} (h:jm l=true) (hk:keyOk key.data.toList=true) (h1:1<=a) (h2:a<=(aD l key).f) (h3:a<=1000000000):(dw l key 0 (-1) 0 a).2=true:=by
 rw [Ls h ⟨h1,h3⟩];have hp:=zh h hk;have hk':=qp l key;have hfd:found l key=true:=by grind [found,wI,Ar,place,aD,Pb,jG,Ce,Ak,head_take,mh,jW,rM,M7,List.drop_eq_getElem_cons,List.getElem?_eq_getElem,List.lt_irrefl,List.mem_iff_getElem,List.mem_take_iff_getElem,List.pairwise_iff_getElem,Nat.lt_trichotomy]
 grind [rA,iB,aD,iY,eX,jW,tF]
end Mth
namespace Mth
theorem AY (h1:eu n=true) (h2:jm n.pu=true) (h3:oC n=true) (h4:fH n.next=true) (h5:sW n=true) (h6:gX n=true):dR n=true:=by
 unfold dR;rw [h1,h2,h3,h4,h5,h6];rfl
theorem sH {l:List Pu} {dm df ds n:Int} (h:jm l=true):jm (dw l key dm df ds n).1=true:=by
 grind [dw,rR]
theorem uW {l:List Pu} (h:dR n=true) (hl:jm l=true):dR (setPu n l)=true:=by
 obtain⟨h1,_,h3,h4,h5,h6⟩:=bE h;exact AY h1 hl h3 h4 h5 h6
theorem LH {l:List α} (h1:∀x∈l,p x=true) (h2:l.Pairwise (λs t=>f s < f t)):gV p (λs t=>iL (f s) (f t)) l=true:=
 (uG (p:=p) (r:=λs t=>iL (f s) (f t)) (λa b c h1 h2=>nI _ _ _ h1 h2)).2 ⟨h1,h2.imp (λh=>by simpa [iL] using h)⟩
theorem afO (h1:0<=n.old) (h2:n.old<=1000000000) (h3:n.reqs.length<=30) (h4:n.reqs.Pairwise (λs t=>s.no < t.no)) (h5:∀q∈n.reqs,tK n q=true):gX n=true:=by
 unfold gX;rw [LH (f:=λr:Rq=>r.no) h5 h4];simp[rA,h1,h2,h3]
theorem Nf (h1:n.old < q.no) (h2:q.no<=1000000000) (h3:keyOk q.k.data.toList=true) (h4:fH q.n=true) (h5:0<=q.s) (h6:q.s<=2):tK n q=true:=by
 grind [tK]
theorem Qg (l:List Rq) (q:Rq):(wK l q).length=l.length+1:=by
 have:=xM l q.no;unfold wK;simp;omega
theorem acB {r:Rq} (h:r∈wK l q):r=q\/r∈l:=by
 grind [wK]
theorem acA (hp:l.Pairwise (λs t=>s.no < t.no)) (hf:oq l q.no=false):(wK l q).Pairwise (λs t=>s.no < t.no):=by
 have hlt:∀i (hi:i < l.length),dW l q.no<=i->q.no < l[i].no:=λi hi hle=>by
  have h1:=zl (no:=q.no) hp i hi hle
  grind [QT]
 unfold wK;rw [List.pairwise_append,aFM];refine⟨hp.sublist (List.take_sublist _ _),⟨λr hr=>?_,hp.sublist (List.drop_sublist _ _)⟩,λr hr s hs=>?_⟩
 .obtain⟨i,hi,rfl⟩:=aFY.1 hr;rw [List.getElem_drop];exact hlt _ _ Aaa
 .obtain⟨i,hi,rfl⟩:=aFY.1 hr;rw [List.getElem_take];have hi':i < dW l q.no:=Abt
  have hil:i < l.length:=by have:=xM l q.no;omega
  have h1:=zm l q.no i hil hi';rcases aE8.1 hs with rfl|hs
  .exact h1
  .obtain⟨j,hj,rfl⟩:=aFY.1 hs;rw [List.getElem_drop];grind
theorem uX (h:dR n=true) (h1:0<=x) (h2:x<=1000000000) (h3:l.length<=30) (h4:l.Pairwise (λs t=>s.no < t.no)) (h5:∀q∈l,tK (oW n x) q=true):dR (eO (oW n x) l)=true:=by
 obtain⟨g1,g2,g3,g4,g5,_⟩:=bE h;exact AY g1 g2 g3 g4 g5 (afO h1 h2 h3 h4 h5)
theorem YT (h:dR n=true) (hf:oq n.reqs q.no=false) (h1:n.old < q.no) (h2:q.no<=1000000000) (h3:keyOk q.k.data.toList=true) (h4:fH q.n=true) (h5:0<=q.s) (h6:q.s<=2):dR (rJ n q)=true:=by
 obtain⟨_,_,_,_,_,g6⟩:=bE h;obtain⟨a1,a2,a3,a4,a5⟩:=iT g6;have hasc:=acA a1 hf;have hlen:=Qg n.reqs q;have hall:∀r∈wK n.reqs q,tK n r=true:=λr hr=>by grind [acB,Nf]
 unfold rJ;split
 .cases hc:wK n.reqs q with
  |nil=>rw [hc] at hlen;simp at hlen
  |cons r l=>
   rw [hc] at hasc hall hlen;have hp:=aFM.1 hasc;have hr:=jY (hall r Aac);simp only[List.headD_cons,List.tail_cons];refine uX h Aaa hr.2.1 (by simp at hlen;omega) hp.2 (λs hs=>?_);have b:=jY (hall s (by simp[hs]));exact Nf (hp.1 s hs) b.2.1 b.2.2.1 b.2.2.2.1 b.2.2.2.2.1 b.2.2.2.2.2
 .rename_i hc
  have e:eO n (wK n.reqs q)=eO (oW n n.old) (wK n.reqs q):=rfl;rw [e];exact uX h a4 a5 Aaa hasc hall
theorem Ut (h:dR n=true) (h2:no<=1000000000) (h3:keyOk key.data.toList=true) (h4:fH a=true):dR (fK n no key a).1=true:=by
 unfold fK;split
 .exact h
 .split
  .exact h
  .rename_i hs hf
   have hpu:=uW (l:=(dw n.pu key 0 (-1) 1 a).1) h (sH (bE h).2.1);refine YT hpu ?_ ?_ h2 h3 h4 ?_ ?_
   .show oq n.reqs no=false
    simpa using hf
   .show n.old < no
    omega
   .dsimp only;split<;>omega
   .dsimp only;split<;>omega
theorem abQ (hi:i < l.length):l.getD i default=l[i]:=by rw [aFl,aEQ hi];rfl
theorem MJ (h:dR n=true):dR (aT n no).1=true:=by
 unfold aT;split
 .exact h
 .split
  .exact h
  .split
   .exact h
   .split
    .exact h
    .split
     .rename_i hf _ _ hp
      obtain⟨hi,hno⟩:=(ou n.reqs no).1 Acd;have hpu:=uW (l:=(dw n.pu (n.reqs.getD (dW n.reqs no) default).k 0 1 (-1) (n.reqs.getD (dW n.reqs no) default).n).1) h (sH (bE h).2.1);obtain⟨_,_,_,_,_,g6⟩:=bE h;obtain⟨a1,a2,a3,a4,a5⟩:=iT g6;rw [abQ hi] at hpu ⊢;have hb:=jY (a3 _ (aE2 hi));have e:∀l,eO (setPu n l) (n.reqs.set (dW n.reqs no) (pX n.reqs[dW n.reqs no]))=eO (oW (setPu n l) (setPu n l).old) (n.reqs.set (dW n.reqs no) (pX n.reqs[dW n.reqs no])):=λ_=>rfl
      rw [e];refine uX hpu a4 a5 (by simpa using a2) ?_ ?_
      .rw [aFQ] at a1 ⊢;intro i j hi' hj' hij
       have e2:∀k (hk:k < (n.reqs.set (dW n.reqs no) (pX n.reqs[dW n.reqs no])).length),((n.reqs.set (dW n.reqs no) (pX n.reqs[dW n.reqs no]))[k]).no=(n.reqs[k]' Acf).no:=λk hk=>by
        rw [List.getElem_set]
        split
        .rename_i he;subst he;rfl
        .rfl
       rw [e2 i hi',e2 j hj'];exact a1 i j (by simpa using hi') (by simpa using hj') hij
      .intro q hq;rcases List.mem_or_eq_of_mem_set hq with hq|rfl
       .exact a3 q hq
       .exact Nf (show n.old < _ by have:=hb.1;simp only[pX];omega) hb.2.1 hb.2.2.1 hb.2.2.2.1 (by simp[pX]) (by simp[pX])
     .exact h
theorem Ki {dst:Int} (h:dR n=true) (hd:dV n dst=true) (hk:keyOk key.data.toList=true) (ha:a<=1000000000):dR (eY n dst key a).1=true:=by
 unfold eY;split
 .rename_i hp
  obtain⟨g1,g2,g3,g4,g5,g6⟩:=bE h;obtain⟨o1,o2,o3⟩:=sZ g5;unfold QG at hp;have hp:=aE5 hp;have hn:1<=n.next/\n.next<=1000000000:=by simpa [fH] using g4
  have hle:rC n key a<=1000000000:=by unfold rC;split<;>omega
  refine AY g1 (sH g2) g3 ?_ ?_ g6
  .show fH (n.next+1)=true
   unfold fH;grind
  .unfold sW;have e:(tu n dst key (rC n key a)).out=n.out++[⟨n.next,dst,key,rC n key a⟩]:=rfl;rw [e];rw [LH (f:=λr:jC=>r.i)]
   .simp;omega
   .grind [rC,keyOk,dV,wN,tu,fH]
   .grind [rC,wN]
 .exact h
theorem Gq (h:dR n=true) {f:Int} (hf:dV n f=true):∃hi:iN n.seen f < n.seen.length,n.seen[iN n.seen f].f=f:=by
 obtain⟨g1,_,g3,_,_,_⟩:=bE h;rw [xR g1,aES,aFa] at g3;have hm:f∈n.seen.map (·.f):=by rw [g3.1,Nz];exact(F8 g1 f).1 hf
 grind [iN]
theorem Bh (h:dR n=true):∀s∈n.seen,vX s=true:=by
 obtain⟨g1,_,g3,_,_,_⟩:=bE h;grind [xR]
theorem tZ (h:vX s=true):1<=s.l/\s.l<=1000000000/\s.ids.length<=40/\(∀x∈s.ids,s.l<=x/\x<=1000000000)/\s.ids.Pairwise (· < ·):=by
 grind [D7,iL,fH,vX,uG,nI]
theorem adu (h1:1<=s.l) (h2:s.l<=1000000000) (h3:s.ids.length<=40) (h4:∀x∈s.ids,s.l<=x/\x<=1000000000) (h5:s.ids.Pairwise (· < ·)):vX s=true:=by
 grind [D7,iL,fH,vX,uG,nI]
theorem AZ (hi:i < n.seen.length) (h:dR n=true) (hf:s.f=n.seen[i].f) (hs:vX s=true):dR (dU n (n.seen.set i s))=true:=by
 obtain⟨g1,g2,g3,g4,g5,g6⟩:=bE h;refine AY g1 g2 ?_ g4 g5 g6;have g1':eu (dU n (n.seen.set i s))=true:=g1;rw [xR g1',aES,aFa];rw [xR g1,aES,aFa] at g3;refine⟨?_,?_⟩
 .show(n.seen.set i s).map (·.f)=ZE (rE n)
  rw [<-g3.1,List.map_set,hf];apply List.ext_getElem?
  grind
 .show(n.seen.set i s).all vX=true
  rw [aGz];grind
theorem WL (h:vX s=true) (h1:low<=1000000000):1<=fQ s low/\fQ s low<=1000000000/\s.l<=fQ s low/\low<=fQ s low:=by
 have:=tZ h;unfold fQ;split<;>omega
theorem Mf (h:vX s=true) (h1:low<=1000000000):vX ⟨s.f,fQ s low,bX s low⟩=true:=by
 have hl:=WL h h1;obtain⟨a1,a2,a3,a4,a5⟩:=tZ h;refine adu hl.1 hl.2.1 ?_ ?_ ?_
 .exact aEP (aGE _ _) a3
 .intro x hx;have:=aGG.1 hx;grind
 .exact a5.sublist List.filter_sublist
theorem ND (x:Int):∀(l:List Int),∀y∈l.takeWhile (λy=>decide (y < x)),y < x:=by
 intro l;induction l with
 |nil=>intro y hy;simp at hy
 |cons z l ih=>
  intro y hy;by_cases hz:z < x
  .rw [List.takeWhile_cons_of_pos (by simpa using hz)] at hy;rcases aE8.1 hy with rfl|hy
   .exact hz
   .exact ih y hy
  .grind [List.takeWhile_cons_of_neg]
theorem zZ (x:Int):∀(l:List Int),l.Pairwise (· < ·)->∀y∈l.dropWhile (λy=>decide (y < x)),x<=y:=by
 intro l;induction l with
 |nil=>intro _ y hy;simp at hy
 |cons z l ih=>
  intro hp y hy;by_cases hz:z < x
  .grind [List.dropWhile_cons_of_pos,List.pairwise_cons]
  .rw [List.dropWhile_cons_of_neg (by simpa using hz)] at hy;rcases aE8.1 hy with rfl|hy
   .omega
   .have:=(aFM.1 hp).1 y hy;omega
theorem Df (l:List Int) (x:Int):(lq l x).length=l.length+1:=by
 grind [lq,List.length_append,List.length_cons,List.takeWhile_append_dropWhile]
theorem Qe {l:List Int} {y:Int}:y∈lq l x↔y=x\/y∈l:=by
 unfold lq;have e:=aGu (p:=λy=>decide (y < x)) (l:=l);grind
theorem Qd {l:List Int} (hp:l.Pairwise (· < ·)) (hx:x∉l):(lq l x).Pairwise (· < ·):=by
 unfold lq;rw [List.pairwise_append,aFM];refine⟨hp.sublist (aGg _),⟨λy hy=>?_,hp.sublist (aF6 _)⟩,λy hy z hz=>?_⟩
 .have h1:=zZ x l hp y hy;have h2:y≠x:=λe=>hx (e▸(aF6 _).mem hy)
  omega
 .have h1:=ND x l y hy;rcases aE8.1 hz with rfl|hz
  .exact h1
  .have h2:=zZ x l hp z hz;omega
theorem Wz {i:Int} (h:sQ s low i=false):fQ s low<=i/\i∉bX s low:=by
 grind [sQ,Aj]
theorem Eu {l:List Sn} (hi:i < l.length):l.getD i default=l[i]:=by rw [aFl,aEQ hi];rfl
theorem YV (h:dR n=true) (hd:dV n m.F=true) (hL:m.L<=1000000000) (hI:m.I<=1000000000):dR (takeN n m).1=true:=by
 obtain⟨hi,hf⟩:=Gq h hd;have hs:=Bh h _ (aE2 hi);unfold takeN;rw [Eu hi];split
 .exact aiS
 .split
  .rename_i h1 h2
   have h1':sQ n.seen[iN n.seen m.F] m.L m.I=false:=Aaw
   obtain⟨b1,b2⟩:=Wz h1';have ho:=tZ (Mf hs hL);have hl:=WL hs hL;unfold lY at h2;simp only[aES,aFa] at h2;have hpu:=uW (l:=(dw n.pu m.k 0 1 0 m.N).1) h (sH (bE h).2.1);refine AZ (n:=setPu n (dw n.pu m.k 0 1 0 m.N).1) hi hpu hf.symm ?_;refine adu hl.1 hl.2.1 ?_ ?_ ?_
   .show(lq (bX n.seen[iN n.seen m.F] m.L) m.I).length<=40
    rw [Df];omega
   .intro x hx;rcases Qe.1 hx with rfl|hx
    .exact⟨b1,hI⟩
    .exact ho.2.2.2.1 x hx
   .exact Qd ho.2.2.2.2 b2
  .exact aiS
theorem Qv {p:jC->Bool} (h:dR n=true):dR (setOut n (n.out.filter p))=true:=by
 obtain⟨g1,g2,g3,g4,g5,g6⟩:=bE h;obtain⟨o1,o2,o3⟩:=sZ g5;refine AY g1 g2 g3 g4 ?_ g6;unfold sW;have e:(setOut n (n.out.filter p)).out=n.out.filter p:=rfl;rw [e,LH (f:=λr:jC=>r.i)]
 .grind
 .intro s hs;exact o3 s (aGG.1 hs).1
 .exact o1.sublist List.filter_sublist
theorem F6 (h:bV m=true) (hK:m.K=1):1<=m.I/\m.I<=1000000000/\1<=m.L/\m.L<=1000000000/\keyOk m.k.data.toList=true/\1<=m.N/\m.N<=1000000000:=by
 grind [bV,fH]
theorem Kg (h:bV m=true) (hK:m.K=0):keyOk m.k.data.toList=true/\1<=m.N/\m.N<=1000000000:=by
 grind [bV,fH]
theorem Ke (h:bV m=true):m.K=0\/m.K=1\/m.K=2:=by
 grind [bV]
theorem YR (h:dR n=true) (hm:bV m=true) (hd:dV n m.F=true):dR (fO n m).1=true:=by
 unfold fO;split
 .rename_i hK
  have hp:=F6 hm hK;exact YV h hd hp.2.2.2.1 hp.2.1
 .grind [Ke,Kg,Qv,Ki]
theorem acZ (h:dR n=true) (hp:¬n.par= -1):dV n n.par=true:=by
 grind [dV,bE,qG]
theorem Qy (h:bH o=true) (hK:o.K=0\/o.K=3\/o.K=4):keyOk o.k.data.toList=true/\1<=o.n/\o.n<=1000000000:=by
 grind [bH,fH]
theorem Ga (h:bH o=true) (hK:o.K=1):keyOk o.k.data.toList=true/\1<=o.n/\o.n<=1000000000/\1<=o.no/\o.no<=1000000000:=by
 grind [bH,fH]
theorem MR (h:bH o=true) (hK:o.K=2):1<=o.no/\o.no<=1000000000:=by
 grind [bH,fH]
theorem Kl (h:bH o=true) (hK:o.K=6):bV o.m=true:=by
 grind [bH]
theorem Kn (h:bH o=true):o.K=0\/o.K=1\/o.K=2\/o.K=3\/o.K=4\/o.K=5\/o.K=6:=by
 grind [bH]
theorem EU (h:yB n o=true) (hK:o.K=6):o.m.T=n.id/\dV n o.m.F=true:=by
 unfold yB at h;simpa [hK] using h
theorem acY (h:dR n=true) (ho:bH o=true) (ha:yB n o=true):dR (fD n o).1=true:=by
 unfold fD;split
 .split
  .exact uW h (sH (bE h).2.1)
  .exact h
 .split
  .grind [fH,Ut,Ga]
  .split
   .exact MJ h
   .split
    .grind
    .split
     .grind [Ki,acZ,Qy]
     .split
      .exact h
      .have hK:o.K=6:=by rcases Kn ho with h|h|h|h|h|h|h<;>omega
       exact YR h (Kl ho hK) (EU ha hK).2
theorem ac0 (h:dR n=true):dR (nN n o).1=true:=by
 grind [nN,acY]
theorem WY (h:dR n=true):dR (doN n o).1=true:=by rw [TG h];exact ac0 h
end Mth
set_option maxRecDepth 100000
open Go.RowKit Go.Maps Go.Sort
theorem alq (m:Nat):AnyZI.SortsIn Tryz.prog Tryz.sortedL_ren Fence.wide m:=
 ⟨λblk off cap ss W hH hblk hsz=>callsIn_wide.2 (AnyM.slices_Sort_int Tryz.sortL blk off cap ss W hH hblk hsz),
  λp cap W=>callsIn_wide.2 (AnyM.slices_Sort_int_none Tryz.sortL p cap W)⟩
theorem afu (mb:Option Nat) (W:World):Calls Tryz.prog 281 #[.map mb] W λe w'=>e= .returned (.func (.func 298) #[] #[.pointer (some ⟨W.heap.size,0,none⟩)])/\w'=W.alloc (.cells #[.map mb] 304):=
 callsIn_wide.1 (AnyZI.keys_in Tryz.keysL Fence.wide 5 trivial rfl mb W)
theorem adB {l ss:List Int} (hp:l.Pairwise (· < ·)) (h:ss.Perm l):ss.mergeSort (λx y=>decide (x<=y))=l:=by
 have h1:ss.mergeSort leI=l.mergeSort leI:=mergeSort_of_perm_i h;refine h1.trans (List.mergeSort_of_pairwise ?_);exact hp.imp (λ{a b} h=>by simp only[leI,aFa];omega)
theorem Zw (B mb n:Nat) (l:List Int) (W:World) (hl:l.length<=1000) (hp:l.Pairwise (· < ·)) (hB:W.heap[B]?=some (.cells #[.map (some mb)] 304 (0,0))) (hs:fF W mb n l):
 Calls Tryz.prog 280 #[.func (.func 298) #[] #[.pointer (some ⟨B,0,none⟩)]] W λe w'=>∃v,e= .returned v/\w'.ownsRow W.heap.size 3 1 v l.length (GR.flat bf l)/\aH W w':=by
 obtain⟨D,hown,ha⟩:=hs;have hk:=fF.keys hown ha (hp.imp (λh=>Aaa));have hsz:Maps.size D=l.length:=by rw [KJ hown,hk.length_eq]
 have hcell:W.cell? ⟨B,0,none⟩=some (.map (some mb)):=aEW W B 0 _ _ (0,0) hB
 have hseq:SeqGives Fence.wide 2 Tryz.prog 298 #[.pointer (some ⟨B,0,none⟩)] encZ (λss=>ss.Perm (intKeys D)) (Maps.size D) W:=
  AnyZI.keys_gives (ρ:=Tryz.keysL_ren) {Tryz.keysL with} Fence.wide _ trivial rfl Aaa B mb n D _ (ay hB) hcell hown
 have cS:=AnyZI.sorted_in Tryz.sortedL Fence.wide 5 trivial trivial trivial trivial rfl Aaa (alq _) (enters_of Tryz.func209 Aab rfl) 298 #[.pointer (some ⟨B,0,none⟩)] trivial (enters_of Tryz.func298 Aab rfl) _ _ (by rw [hsz];unfold maxLen;omega) (by rw [hsz];omega) _ hseq;change CallsIn _ _ Tryz.prog 280 _ _ _ at cS
 refine(callsIn_wide.1 cS).mono ?_;rintro e w' ⟨v,ss,rfl,hS,hrow,_,hb⟩;have hperm:ss.Perm l:=hS.trans hk.symm;rw [adB hp hperm,hperm.length_eq,<-Fj] at hrow;exact⟨v,rfl,hrow,hb⟩
theorem Zp (sb mb n:Nat) (f low:Int) (l:List Int) (w:World) (hl:l.length<=1000) (hp:l.Pairwise (· < ·)) (hb:kX w sb mb low) (hs:fF w mb n l):
 Calls Tryz.prog 252 #[.pointer (some ⟨sb,0,none⟩),.int .i64 f] w λe w'=>∃v,e= .returned (.agg #[.int .i64 f,.int .i64 low,v])/\w'.ownsRow w.heap.size 3 1 v l.length (GR.flat bf l)/\aH w w':=by
 have hsl:=ay hb;have HB:=Hq hb;have HS:=Hq hs;have Sr:=Hq afu;have HSO:=Hq (λB W (h1:W.heap[B]?=_) (h2:fF W mb n l)=>Zw B mb n l W hl hp h1 h2);have hb1:=aj hb (au w (.cells #[.int .i64 0,.int .i64 0,.slice none 0 0] 130));obtain⟨⟨m0,m1⟩,_⟩:=mH hb1;clear hb hs hb1;go_in
 go_upto_region 1 with fail;have y0:=aEL m0;have y1:=aEL m1;clear m0 m1;refine rg 12 Ge 13 ?_;refine tk [0,1,2,3,4,5,6,7,8] ?_;iterate 9 (refine iO (λK hK=>?_);go_simp;refine hK _ ?_;clear hK K)
 refine jf ?_;clear y0 y1;refine dG 9 rfl Aab Aad (λx hx=>?_);go_simp;have HX:=Hq hx;clear hx;refine(Sr (some mb) x).mono ?_;rintro e y ⟨rfl,rfl⟩;refine⟨au x _,?_⟩;refine dG 10 rfl Aab Aad (λx2 hx2=>?_);go_simp;have JN:=Hq hx2;have h1:x2.heap[x.heap.size]?=some (.cells #[.map (some mb)] 304 (0,0)):=aj (aEK x _) hx2;have HG:=Hq (Ge.trans (Ge.trans HX (au x _)) hx2);have h2:fF x2 mb n l:=HS.kept ((HG.block mb (by have:=HS.lt;simp;omega)).trans (aEZ _ _ _ HS.lt));have HCS:=Hq (HSO x.heap.size x2 h1 h2);clear hx2 h1 h2 Sr HSO JN;refine HCS.mono ?_;rintro e z ⟨v,rfl,hrow,hbz⟩;refine⟨hbz,?_⟩;obtain⟨av,cv,rfl,_⟩:=GR.own_at (enc:=bf) (sz:=1) aW hrow;have HRW:=Hq hrow;have HZ:=Hq (Ge.trans HG hbz);clear hrow hbz HCS;refine tk [11] ?_;(refine iO (λK hK=>?_);go_simp;refine hK _ ?_;clear hK K)
 refine jf ?_;refine aU Aab (λx3 hx3=>?_);have Ii:=Hq (Ge.trans HZ hx3);have HR3:=Hq (GR.own_below HRW hx3);have e3:x3.heap[w.heap.size]?=some (.cells #[.int .i64 0,.int .i64 0,.slice none 0 0] 130 (0,0)):=aj (aEK w _) Ii;have f0:=aC e3 0;have f1:=aC e3 1;have f2:=aC e3 2;have hw3:=ay e3;obtain⟨d0,d1,d2⟩:=three e3;have E3:=Hq e3;clear e3 hx3 HX HZ HRW;refine an 12 ?_;go_simp;refine ad ?_;clear d0 d1 d2 f0 f1 f2;go_wp2_with fail;refine iy (λW' hW'=>?_)
 have e4:W'.heap[w.heap.size]?=some (.cells #[.int .i64 f,.int .i64 low,.slice av l.length cv] 130 (0,0)):=by
  rw [hW'];exact GR.setW_blk [.int .i64 f,.int .i64 low,.slice av l.length cv] (o:=0) (xs:=[.int .i64 0,.int .i64 0,.slice none 0 0]) E3
 have hsw:w.heap.size < x2.heap.size:=by have:=HG.size;simp at this;omega
 have hg:x3.grownBy W' (some w.heap.size):=by
  rw [hW'];exact⟨rfl,rfl,rfl,Aaq,λk _ hk=>GR.setW_other (g':=k) (λe=>hk Aap) [.int .i64 f,.int .i64 low,.slice av l.length cv] (o:=0)⟩
 have hne:∀k,(Value.slice av l.length cv).ownBlock=some k->k≠w.heap.size:=λk hk=>by have:=(HR3.lt k hk).1;omega
 have hrow:W'.ownsRow x2.heap.size 3 1 (.slice av l.length cv) l.length (GR.flat bf l):=by
  refine HR3.kept (row:=some w.heap.size) hg ?_;cases hv:(Value.slice av l.length cv).ownBlock with
  |none=>exact .inl rfl
  |some k=>exact .inr (λe=>hne k hv (by injection e))
 have hbel:aH w W':=by
  rw [hW'];exact GR.setW_below (aEM _) [.int .i64 f,.int .i64 low,.slice av l.length cv] (o:=0) ((au w _).trans (Ii.mono Aac))
 have HRW:=Hq (ownsRow_base_a hrow (show w.heap.size<=x2.heap.size by omega));have iK:=Hq hbel;obtain⟨d0,d1,d2⟩:=three e4;clear hW' e4 hg hrow hbel;exact aET (v:= .agg #[.int .i64 f,.int .i64 low,.slice av l.length cv]) (by simp[results,Tryz.results252,go_sem,d0,d1,d2]) rfl ⟨_,rfl,HRW,iK⟩
end Go.Proofs.YtbolgdleijjgfaaGreatDoor
