/- Parts. -/
import Derived.Test.YtacgbldlonoaaaaGreatDoorRwT
import Derived.Test.YtacgbldlonoaaaaGreatDoorRw25
import Derived.Test.YtacgbldlonoaaaaGreatDoorRw19
namespace Go.Proofs.YtacgbldlonoaaaaGreatDoor
open Go.Proofs.Tryz
set_option maxHeartbeats 4000000
open Go.RowKit
open Mth
variable {n:Nd} {o:fP} {s:Sn} {m:Mg} {q:Rq} {l:List Rq} {key:ByteArray} {x low no a:Int} {i:Nat}
namespace Mth
theorem Ab (h1:dH n=true) (h2:jo n.pu=true) (h3:pJ n=true) (h4:fV n.next=true) (h5:sZ n=true) (h6:iy n=true):dY n=true:=by
 unfold dY;rw [h1,h2,h3,h4,h5,h6];rfl
theorem sD {l:List Pu} {dm df ds n:Int} (h:jo l=true):jo (dJ l key dm df ds n).1=true:=by
 unfold dJ rP;split
 .rename_i hc
  simp only[Bool.and_eq_true] at hc;exact hc.2
 .exact h
theorem uL {l:List Pu} (h:dY n=true) (hl:jo l=true):dY (setPu n l)=true:=by
 obtain⟨h1,_,h3,h4,h5,h6⟩:=cZ h;exact Ab h1 hl h3 h4 h5 h6
theorem K9 {α:Type} {p:α->Bool} {f:α->Int} {l:List α} (h1:∀x∈l,p x=true) (h2:l.Pairwise (λs t=>f s < f t)):iB p (λs t=>iQ (f s) (f t)) l=true:=
 (um (p:=p) (r:=λs t=>iQ (f s) (f t)) (λa b c h1 h2=>nY _ _ _ h1 h2)).2 ⟨h1,h2.imp (λh=>Adc)⟩
theorem aeJ (h1:0<=n.old) (h2:n.old<=1000000000) (h3:n.reqs.length<=30) (h4:n.reqs.Pairwise (λs t=>s.no < t.no)) (h5:∀q∈n.reqs,tH n q=true):iy n=true:=by
 unfold iy;rw [K9 (f:=λr:Rq=>r.no) h5 h4];simp[ru,h1,h2,h3]
theorem ME (h1:n.old < q.no) (h2:q.no<=1000000000) (h3:keyOk q.k.data.toList=true) (h4:fV q.n=true) (h5:0<=q.s) (h6:q.s<=2):tH n q=true:=by
 unfold tH;rw [h3,h4];simp only[Bool.and_true,Bool.and_eq_true,decide_eq_true_eq];omega
theorem PY (l:List Rq) (q:Rq):(uH l q).length=l.length+1:=by
 have:=wV l q.no;unfold uH;simp;omega
theorem abU {r:Rq} (h:r∈uH l q):r=q\/r∈l:=by
 unfold uH at h;rcases List.mem_append.1 h with h|h
 .exact .inr (List.mem_of_mem_take h)
 .rcases List.mem_cons.1 h with h|h
  .exact .inl h
  .exact .inr (List.mem_of_mem_drop h)
theorem abT (hp:l.Pairwise (λs t=>s.no < t.no)) (hf:oq l q.no=false):(uH l q).Pairwise (λs t=>s.no < t.no):=by
 have hlt:∀i (hi:i < l.length),dZ l q.no<=i->q.no < l[i].no:=λi hi hle=>by
  have h1:=yM (no:=q.no) hp i hi hle
  rcases Int.lt_or_eq_of_le h1 with h|h
  .exact h
  .have:=(Qy hp hi h.symm).2;rw [hf] at this;cases this
 unfold uH;rw [List.pairwise_append,List.pairwise_cons];refine⟨hp.sublist (List.take_sublist _ _),⟨λr hr=>?_,hp.sublist (List.drop_sublist _ _)⟩,λr hr s hs=>?_⟩
 .obtain⟨i,hi,rfl⟩:=List.mem_iff_getElem.1 hr;rw [List.getElem_drop];exact hlt _ _ Aaa
 .obtain⟨i,hi,rfl⟩:=List.mem_iff_getElem.1 hr;rw [List.getElem_take];have hi':i < dZ l q.no:=Abt
  have hil:i < l.length:=by have:=wV l q.no;omega
  have h1:=yN l q.no i hil hi';rcases List.mem_cons.1 hs with rfl|hs
  .exact h1
  .obtain⟨j,hj,rfl⟩:=List.mem_iff_getElem.1 hs;rw [List.getElem_drop];have:=hlt (dZ l q.no+j) (by simp at hj;omega) Aaa;omega
theorem uM (h:dY n=true) (h1:0<=x) (h2:x<=1000000000) (h3:l.length<=30) (h4:l.Pairwise (λs t=>s.no < t.no)) (h5:∀q∈l,tH (nJ n x) q=true):dY (eH (nJ n x) l)=true:=by
 obtain⟨g1,g2,g3,g4,g5,_⟩:=cZ h;exact Ab g1 g2 g3 g4 g5 (aeJ h1 h2 h3 h4 h5)
theorem XL (h:dY n=true) (hf:oq n.reqs q.no=false) (h1:n.old < q.no) (h2:q.no<=1000000000) (h3:keyOk q.k.data.toList=true) (h4:fV q.n=true) (h5:0<=q.s) (h6:q.s<=2):dY (nA n q)=true:=by
 obtain⟨_,_,_,_,_,g6⟩:=cZ h;obtain⟨a1,a2,a3,a4,a5⟩:=jl g6;have hasc:=abT a1 hf;have hlen:=PY n.reqs q
 have hall:∀r∈uH n.reqs q,tH n r=true:=λr hr=>by
  rcases abU hr with rfl|hr
  .exact ME h1 h2 h3 h4 h5 h6
  .exact a3 r hr
 unfold nA;split
 .cases hc:uH n.reqs q with
  |nil=>rw [hc] at hlen;simp at hlen
  |cons r l=>
   rw [hc] at hasc hall hlen
   have hp:=List.pairwise_cons.1 hasc
   have hr:=kK (hall r Aac)
   simp only[List.headD_cons,List.tail_cons]
   refine uM h Aaa hr.2.1 (by simp at hlen;omega) hp.2 (λs hs=>?_)
   have b:=kK (hall s (by simp[hs]))
   exact ME (hp.1 s hs) b.2.1 b.2.2.1 b.2.2.2.1 b.2.2.2.2.1 b.2.2.2.2.2
 .rename_i hc
  have e:eH n (uH n.reqs q)=eH (nJ n n.old) (uH n.reqs q):=rfl;rw [e];exact uM h a4 a5 Aaa hasc hall
theorem TV (h:dY n=true) (h2:no<=1000000000) (h3:keyOk key.data.toList=true) (h4:fV a=true):dY (gJ n no key a).1=true:=by
 unfold gJ;split
 .exact h
 .split
  .exact h
  .rename_i hs hf
   have hpu:=uL (l:=(dJ n.pu key 0 (-1) 1 a).1) h (sD (cZ h).2.1);refine XL hpu ?_ ?_ h2 h3 h4 ?_ ?_
   .show oq n.reqs no=false
    simpa using hf
   .show n.old < no
    omega
   .dsimp only;split<;>omega
   .dsimp only;split<;>omega
theorem abh (hi:i < l.length):l.getD i default=l[i]:=by rw [List.getD_eq_getElem?_getD,List.getElem?_eq_getElem hi];rfl
theorem Mk (h:dY n=true):dY (bn n no).1=true:=by
 unfold bn;split
 .exact h
 .split
  .exact h
  .split
   .exact h
   .split
    .exact h
    .split
     .rename_i hf _ _ hp
      obtain⟨hi,hno⟩:=(pE n.reqs no).1 (by simpa using hf);have hpu:=uL (l:=(dJ n.pu (n.reqs.getD (dZ n.reqs no) default).k 0 1 (-1) (n.reqs.getD (dZ n.reqs no) default).n).1) h (sD (cZ h).2.1);obtain⟨_,_,_,_,_,g6⟩:=cZ h;obtain⟨a1,a2,a3,a4,a5⟩:=jl g6;rw [abh hi] at hpu ⊢;have hb:=kK (a3 _ (List.getElem_mem hi));have e:∀l,eH (setPu n l) (n.reqs.set (dZ n.reqs no) (qj n.reqs[dZ n.reqs no]))=eH (nJ (setPu n l) (setPu n l).old) (n.reqs.set (dZ n.reqs no) (qj n.reqs[dZ n.reqs no])):=λ_=>rfl
      rw [e];refine uM hpu a4 a5 (by simpa using a2) ?_ ?_
      .rw [List.pairwise_iff_getElem] at a1 ⊢;intro i j hi' hj' hij
       have e2:∀k (hk:k < (n.reqs.set (dZ n.reqs no) (qj n.reqs[dZ n.reqs no])).length),((n.reqs.set (dZ n.reqs no) (qj n.reqs[dZ n.reqs no]))[k]).no=(n.reqs[k]' Ach).no:=λk hk=>by
        rw [List.getElem_set]
        split
        .rename_i he;subst he;rfl
        .rfl
       rw [e2 i hi',e2 j hj'];exact a1 i j (by simpa using hi') Acp hij
      .intro q hq;rcases List.mem_or_eq_of_mem_set hq with hq|rfl
       .exact a3 q hq
       .exact ME (show n.old < _ by have:=hb.1;simp only[qj];omega) hb.2.1 hb.2.2.1 hb.2.2.2.1 (by simp[qj]) (by simp[qj])
     .exact h
theorem J2 {dst:Int} (h:dY n=true) (hd:dV n dst=true) (hk:keyOk key.data.toList=true) (ha:a<=1000000000):dY (fG n dst key a).1=true:=by
 unfold fG;split
 .rename_i hp
  obtain⟨g1,g2,g3,g4,g5,g6⟩:=cZ h;obtain⟨o1,o2,o3⟩:=tq g5;unfold Qr at hp;have hp:=of_decide_eq_true hp;have hn:1<=n.next/\n.next<=1000000000:=by simpa [fV] using g4
  have hle:qc n key a<=1000000000:=by unfold qc;split<;>omega
  refine Ab g1 (sD g2) g3 ?_ ?_ g6
  .show fV (n.next+1)=true
   unfold fV;simp only[decide_eq_true_eq];omega
  .unfold sZ;have e:(rH n dst key (qc n key a)).out=n.out++[⟨n.next,dst,key,qc n key a⟩]:=rfl;rw [e];rw [K9 (f:=λr:lJ=>r.i)]
   .simp;omega
   .intro s hs;have eB:∀s,vN (rH n dst key (qc n key a)) s=(decide (1<=s.i/\s.i<=n.next+1 - 1)&&dV n s.t&&keyOk s.k.data.toList&&fV s.n):=λ_=>rfl
    rw [eB];rcases List.mem_append.1 hs with hs|hs
    .have:=o3 s hs;unfold vN at this;simp only[Bool.and_eq_true,decide_eq_true_eq] at this ⊢;exact⟨⟨⟨Aaa,this.1.1.2⟩,this.1.2⟩,this.2⟩
    .obtain rfl:s=⟨n.next,dst,key,qc n key a⟩:=by simpa using hs
     simp only[Bool.and_eq_true,decide_eq_true_eq];refine⟨⟨⟨Aaa,hd⟩,hk⟩,?_⟩;unfold fV;simp only[decide_eq_true_eq];omega
   .rw [List.pairwise_append];refine⟨o1,Aac,λs hs t ht=>?_⟩;obtain rfl:t=⟨n.next,dst,key,qc n key a⟩:=by simpa using ht
    have:=o3 s hs;unfold vN at this;simp only[Bool.and_eq_true,decide_eq_true_eq] at this;show s.i < n.next
    omega
 .exact h
theorem Gc (h:dY n=true) {f:Int} (hf:dV n f=true):∃hi:iG n.seen f < n.seen.length,n.seen[iG n.seen f].f=f:=by
 obtain⟨g1,_,g3,_,_,_⟩:=cZ h;rw [uV g1,Bool.and_eq_true,decide_eq_true_eq] at g3;have hm:f∈n.seen.map (·.f):=by rw [g3.1,AR];exact(wB g1 f).1 hf
 obtain⟨s,hs,rfl⟩:=List.mem_map.1 hm;have hx:iG n.seen s.f < n.seen.length:=List.findIdx_lt_length_of_exists ⟨s,hs,Aac⟩;exact⟨hx,of_decide_eq_true (List.findIdx_getElem (p:=λt:Sn=>decide (t.f=s.f)) (w:=hx))⟩
theorem Ar (h:dY n=true):∀s∈n.seen,vO s=true:=by
 obtain⟨g1,_,g3,_,_,_⟩:=cZ h;rw [uV g1,Bool.and_eq_true] at g3;exact List.all_eq_true.1 g3.2
theorem tQ (h:vO s=true):1<=s.l/\s.l<=1000000000/\s.ids.length<=40/\(∀x∈s.ids,s.l<=x/\x<=1000000000)/\s.ids.Pairwise (· < ·):=by
 unfold vO at h;simp only[Bool.and_eq_true,decide_eq_true_eq] at h;have h1:1<=s.l/\s.l<=1000000000:=by simpa [fV] using h.1.1
 have h2:=(um (p:=Bp s.l) (r:=iQ) nY).1 h.2;exact⟨h1.1,h1.2,h.1.2,λx hx=>by simpa [Bp] using h2.1 x hx,h2.2.imp (λh=>Adc)⟩
theorem acO (h1:1<=s.l) (h2:s.l<=1000000000) (h3:s.ids.length<=40) (h4:∀x∈s.ids,s.l<=x/\x<=1000000000) (h5:s.ids.Pairwise (· < ·)):vO s=true:=by
 unfold vO;rw [(um (p:=Bp s.l) (r:=iQ) nY).2 ⟨λx hx=>by simpa [Bp] using h4 x hx,h5.imp (λh=>Adc)⟩];simp[fV,h1,h2,h3]
theorem Ac (hi:i < n.seen.length) (h:dY n=true) (hf:s.f=n.seen[i].f) (hs:vO s=true):dY (dA n (n.seen.set i s))=true:=by
 obtain⟨g1,g2,g3,g4,g5,g6⟩:=cZ h;refine Ab g1 g2 ?_ g4 g5 g6;have g1':dH (dA n (n.seen.set i s))=true:=g1;rw [uV g1',Bool.and_eq_true,decide_eq_true_eq];rw [uV g1,Bool.and_eq_true,decide_eq_true_eq] at g3;refine⟨?_,?_⟩
 .show(n.seen.set i s).map (·.f)=Nj (lN n)
  rw [<-g3.1,List.map_set,hf];apply List.ext_getElem?
  intro j;rw [List.getElem?_set];split
  .rename_i e
   subst e;simp[hi]
  .rfl
 .show(n.seen.set i s).all vO=true
  rw [List.all_eq_true];intro x hx;rcases List.mem_or_eq_of_mem_set hx with hx|rfl
  .exact List.all_eq_true.1 g3.2 x hx
  .exact hs
theorem VD (h:vO s=true) (h1:low<=1000000000):1<=eZ s low/\eZ s low<=1000000000/\s.l<=eZ s low/\low<=eZ s low:=by
 have:=tQ h;unfold eZ;split<;>omega
theorem LH (h:vO s=true) (h1:low<=1000000000):vO ⟨s.f,eZ s low,bg s low⟩=true:=by
 have hl:=VD h h1;obtain⟨a1,a2,a3,a4,a5⟩:=tQ h;refine acO hl.1 hl.2.1 ?_ ?_ ?_
 .exact Nat.le_trans (List.length_filter_le _ _) a3
 .intro x hx;have:=List.mem_filter.1 hx;exact⟨by simpa using this.2,(a4 x this.1).2⟩
 .exact a5.sublist List.filter_sublist
theorem Nn (x:Int):∀(l:List Int),∀y∈l.takeWhile (λy=>decide (y < x)),y < x:=by
 intro l;induction l with
 |nil=>intro y hy;simp at hy
 |cons z l ih=>
  intro y hy
  by_cases hz:z < x
  .rw [List.takeWhile_cons_of_pos Acj] at hy;rcases List.mem_cons.1 hy with rfl|hy
   .exact hz
   .exact ih y hy
  .rw [List.takeWhile_cons_of_neg Acj] at hy;cases hy
theorem zD (x:Int):∀(l:List Int),l.Pairwise (· < ·)->∀y∈l.dropWhile (λy=>decide (y < x)),x<=y:=by
 intro l;induction l with
 |nil=>intro _ y hy;simp at hy
 |cons z l ih=>
  intro hp y hy
  by_cases hz:z < x
  .rw [List.dropWhile_cons_of_pos Acj] at hy;exact ih (List.pairwise_cons.1 hp).2 y hy
  .rw [List.dropWhile_cons_of_neg Acj] at hy;rcases List.mem_cons.1 hy with rfl|hy
   .omega
   .have:=(List.pairwise_cons.1 hp).1 y hy;omega
theorem C9 (l:List Int) (x:Int):(mQ l x).length=l.length+1:=by
 unfold mQ;have:=congrArg List.length (List.takeWhile_append_dropWhile (p:=λy=>decide (y < x)) (l:=l));rw [List.length_append] at this;rw [List.length_append,List.length_cons];omega
theorem PV {l:List Int} {y:Int}:y∈mQ l x↔y=x\/y∈l:=by
 unfold mQ;have e:=List.takeWhile_append_dropWhile (p:=λy=>decide (y < x)) (l:=l);constructor
 .intro h;rcases List.mem_append.1 h with h|h
  .exact .inr ((List.takeWhile_sublist _).mem h)
  .rcases List.mem_cons.1 h with h|h
   .exact .inl h
   .exact .inr ((List.dropWhile_sublist _).mem h)
 .rintro(rfl|h)
  .simp
  .rw [<-e] at h;rcases List.mem_append.1 h with h|h
   .exact List.mem_append.2 (.inl h)
   .exact List.mem_append.2 (.inr (List.mem_cons_of_mem _ h))
theorem PU {l:List Int} (hp:l.Pairwise (· < ·)) (hx:x∉l):(mQ l x).Pairwise (· < ·):=by
 unfold mQ;rw [List.pairwise_append,List.pairwise_cons];refine⟨hp.sublist (List.takeWhile_sublist _),⟨λy hy=>?_,hp.sublist (List.dropWhile_sublist _)⟩,λy hy z hz=>?_⟩
 .have h1:=zD x l hp y hy;have h2:y≠x:=λe=>hx (e▸(List.dropWhile_sublist _).mem hy)
  omega
 .have h1:=Nn x l y hy;rcases List.mem_cons.1 hz with rfl|hz
  .exact h1
  .have h2:=zD x l hp z hz;omega
theorem Vw {i:Int} (h:sQ s low i=false):eZ s low<=i/\i∉bg s low:=by
 unfold sQ at h;rw [Bool.or_eq_false_iff] at h;refine⟨by simpa using h.1,λhm=>?_⟩;rw [(zJ _ _).2 hm] at h;cases h.2
theorem Ew {l:List Sn} (hi:i < l.length):l.getD i default=l[i]:=by rw [List.getD_eq_getElem?_getD,List.getElem?_eq_getElem hi];rfl
theorem XM (h:dY n=true) (hd:dV n m.F=true) (hL:m.L<=1000000000) (hI:m.I<=1000000000):dY (takeN n m).1=true:=by
 obtain⟨hi,hf⟩:=Gc h hd;have hs:=Ar h _ (List.getElem_mem hi);unfold takeN;rw [Ew hi];split
 .exact ahI
 .split
  .rename_i h1 h2
   have h1':sQ n.seen[iG n.seen m.F] m.L m.I=false:=Aap
   obtain⟨b1,b2⟩:=Vw h1';have ho:=tQ (LH hs hL);have hl:=VD hs hL;unfold mY at h2;simp only[Bool.and_eq_true,decide_eq_true_eq] at h2;have hpu:=uL (l:=(dJ n.pu m.k 0 1 0 m.N).1) h (sD (cZ h).2.1);refine Ac (n:=setPu n (dJ n.pu m.k 0 1 0 m.N).1) hi hpu hf.symm ?_;refine acO hl.1 hl.2.1 ?_ ?_ ?_
   .show(mQ (bg n.seen[iG n.seen m.F] m.L) m.I).length<=40
    rw [C9];omega
   .intro x hx;rcases PV.1 hx with rfl|hx
    .exact⟨b1,hI⟩
    .exact ho.2.2.2.1 x hx
   .exact PU ho.2.2.2.2 b2
  .exact ahI
theorem Qf {p:lJ->Bool} (h:dY n=true):dY (setOut n (n.out.filter p))=true:=by
 obtain⟨g1,g2,g3,g4,g5,g6⟩:=cZ h;obtain⟨o1,o2,o3⟩:=tq g5;refine Ab g1 g2 g3 g4 ?_ g6;unfold sZ;have e:(setOut n (n.out.filter p)).out=n.out.filter p:=rfl;rw [e,K9 (f:=λr:lJ=>r.i)]
 .simp only[Bool.and_true,decide_eq_true_eq];exact Nat.le_trans (List.length_filter_le _ _) o2
 .intro s hs;exact o3 s (List.mem_filter.1 hs).1
 .exact o1.sublist List.filter_sublist
theorem FW (h:bY m=true) (hK:m.K=1):1<=m.I/\m.I<=1000000000/\1<=m.L/\m.L<=1000000000/\keyOk m.k.data.toList=true/\1<=m.N/\m.N<=1000000000:=by
 unfold bY at h;simp[hK,fV] at h;refine⟨?_,?_,?_,?_,?_,?_,?_⟩<;>first|omega|simp_all
theorem JY (h:bY m=true) (hK:m.K=0):keyOk m.k.data.toList=true/\1<=m.N/\m.N<=1000000000:=by
 unfold bY at h;simp[hK,fV] at h;refine⟨?_,?_,?_⟩<;>first|omega|simp_all
theorem JX (h:bY m=true):m.K=0\/m.K=1\/m.K=2:=by
 unfold bY at h;by_cases h0:m.K=0
 .exact .inl h0
 .by_cases h1:m.K=1
  .exact .inr (.inl h1)
  .by_cases h2:m.K=2
   .exact .inr (.inr h2)
   .exfalso
    simp[h0,h1,h2] at h
theorem XK (h:dY n=true) (hm:bY m=true) (hd:dV n m.F=true):dY (gK n m).1=true:=by
 unfold gK;split
 .rename_i hK
  have hp:=FW hm hK;exact XM h hd hp.2.2.2.1 hp.2.1
 .split
  .exact Qf h
  .split
   .rename_i h1 h2 _
    have hK:m.K=0:=by rcases JX hm with h|h|h<;>omega
    have hp:=JY hm hK;exact J2 h hd hp.1 hp.2.2
   .exact h
theorem acn (h:dY n=true) (hp:¬n.par= -1):dV n n.par=true:=by
 have:=(nZ (cZ h).1).2.2;unfold dV;rw [decide_eq_true (show 0<=n.par by omega)];simp
theorem Qk (h:bq o=true) (hK:o.K=0\/o.K=3\/o.K=4):keyOk o.k.data.toList=true/\1<=o.n/\o.n<=1000000000:=by
 unfold bq at h;rw [if_pos hK] at h;simp only[Bool.and_eq_true] at h;have:=h.1.1.2;unfold fV at this;have:=of_decide_eq_true this;exact⟨h.1.1.1,this.1,this.2⟩
theorem FX (h:bq o=true) (hK:o.K=1):keyOk o.k.data.toList=true/\1<=o.n/\o.n<=1000000000/\1<=o.no/\o.no<=1000000000:=by
 unfold bq at h;rw [if_neg Aaa,if_pos hK] at h;simp only[Bool.and_eq_true] at h;have h1:=h.1.1.2;have h2:=h.1.2;unfold fV at h1 h2;have h1:=of_decide_eq_true h1;have h2:=of_decide_eq_true h2;exact⟨h.1.1.1,h1.1,h1.2,h2.1,h2.2⟩
theorem Mq (h:bq o=true) (hK:o.K=2):1<=o.no/\o.no<=1000000000:=by
 unfold bq at h;rw [if_neg Aaa,if_neg Aaa,if_pos hK] at h;simp only[Bool.and_eq_true] at h;have h2:=h.1.2;unfold fV at h2;exact of_decide_eq_true h2
theorem J6 (h:bq o=true) (hK:o.K=6):bY o.m=true:=by
 unfold bq at h;rw [if_neg Aaa,if_neg Aaa,if_neg Aaa,if_neg Aaa,if_pos hK] at h;simp only[Bool.and_eq_true] at h;exact h.2
theorem J7 (h:bq o=true):o.K=0\/o.K=1\/o.K=2\/o.K=3\/o.K=4\/o.K=5\/o.K=6:=by
 exact ah2
theorem EM (h:xO n o=true) (hK:o.K=6):o.m.T=n.id/\dV n o.m.F=true:=by
 unfold xO at h;simpa [hK] using h
theorem acj (h:dY n=true) (ho:bq o=true) (ha:xO n o=true):dY (fQ n o).1=true:=by
 unfold fQ;split
 .split
  .exact uL h (sD (cZ h).2.1)
  .exact h
 .split
  .rename_i hK
   have hp:=FX ho hK;exact TV h hp.2.2.2.2 hp.1 (by unfold fV;simp only[decide_eq_true_eq];omega)
  .split
   .exact Mk h
   .split
    .split
     .exact h
     .exact h
    .split
     .split
      .exact h
      .rename_i hK hpar
       have hp:=Qk ho Aaa;exact J2 h (acn h hpar) hp.1 hp.2.2
     .split
      .exact h
      .have hK:o.K=6:=by rcases J7 ho with h|h|h|h|h|h|h<;>omega
       exact XK h (J6 ho hK) (EM ha hK).2
theorem aco (h:dY n=true):dY (nQ n o).1=true:=by
 unfold nQ;split
 .rename_i hc
  rw [Bool.and_eq_true] at hc;exact acj h hc.1 hc.2
 .exact h
theorem VG (h:dY n=true):dY (O3 n o).1=true:=by rw [Lf h];exact aco h
end Mth
set_option maxRecDepth 100000
theorem WK.app {w0 w w6:World} {wb:Nat} {A:bC} {G:bJ} {c:Nat->Nat} {v v':Value} {L:List Mg} (h:WK w0 w wb n A G c v L) (m:Mg) (hown:w6.ownsRow w0.heap.size 32 7 v' (L.length+1) (GR.flat lF L++lF m)) (hg:w.grownBy w6 v.ownBlock) (hv:∀x,v'.ownBlock=some x->v.ownBlock=some x\/w.heap.size<=x):
 w6.heap[wb]?=some (.cells (RI n A v) 74 (0,0))/\WK w0 (w6.setCell ⟨wb,9,none⟩ v') wb n A G (newC w.heap.size 7 c) v' (L++[m]):=by
 have h1:=h.recol (c':=newC w.heap.size 7 c) (λx hx=>eT hx);have hk1:KC (newC w.heap.size 7 c) 7 w w6:=KC.grown hg h1.cm;have hblk:=hk1.obj h1.blk (by rw [h1.cw];omega);have hno:=h1.no.kc hk1 Aaa;have hkeep:=hk1.below h1.keep h1.no.lo Aaa h1.keep.size;have hk2:KC (newC w.heap.size 7 c) 8 w6 (w6.setCell ⟨wb,9,none⟩ v'):=KC.set h1.cw
 have hcm:∀x,v'.ownBlock=some x->newC w.heap.size 7 c x=7:=λx hx=>by
  rcases hv x hx with hx'|hx'
  .exact h1.cm x hx'
  .exact aZ hx'
 refine⟨hblk,hk2.below hkeep h1.no.lo Aaa hkeep.size,aT hblk 9 v',hno.kc hk2 Aaa,?_,hcm,h1.cw⟩;rw [List.length_append,jd];exact hk2.own hown hcm Aaa
theorem VW (w0 w:World) (wb:Nat) (n:Nd) (A:bC) (G:bJ) (c:Nat->Nat) (v:Value) (L:List Mg) (m:Mg) (hk:m.k.size<=1048600) (hL:L.length<=2097200) (h:WK w0 w wb n A G c v L):
 Calls Tryz.prog 125 #[.pointer (some ⟨wb,0,none⟩),qg m] w λe w'=>e= .returned (.tuple #[])/\∃c' v',WK w0 w' wb n A G c' v' (L++[m]):=by
 obtain⟨i0,hi,hz0,hz1,hz2⟩:=info_parts Vy;have HS:=Hq h;clear h;obtain⟨va,vc,hv,_⟩:=GR.own_at (enc:=lF) (sz:=7) (l:=L) oW HS.m;subst hv;obtain⟨mK,mF,mT,mI,mL,mk,mN⟩:=m;dsimp only at hk;have HX0:=Hq (heap_alloc_new w (.cells (cK mK mF mT mI mL mk mN) 32));go_in
 go_wp2_with fail;refine(clone mk _ Aaa).mono ?_;rintro e w1 ⟨rfl,hb1⟩;have GU:=Hq (ay HX0 hb1);have HB1:=Hq ((au w _).trans (hb1.mono Aac));clear hb1 HX0;have Xk:=aj GU 5;obtain⟨x0,x1,x2,x3,x4,x5,x6⟩:=jY GU;go_upto_region 2 with fail;refine wp_at (λW hW=>?_);have HXW:Hid (W.heap[w.heap.size]?=some (.cells (cK mK mF mT mI mL mk mN) 32 (0,0))):=by rw [hW];exact aT GU 5 (.string mk)
 have iA:Hid (aY w W):=by rw [hW];exact HB1.setCell (p:=⟨w.heap.size,5,none⟩) (Nat.le_refl _) _
 clear hW HB1 GU Xk x0 x1 x2 x3 x4 x5 x6;have HSW:=Hq (HS.step iA);have hwl:=aA HS.blk;have hne:wb≠w.heap.size:=Aaa
 have hlW:=aA HXW;obtain⟨x0,x1,x2,x3,x4,x5,x6⟩:=jY HXW;obtain⟨c0,c1,c2,c3,c4,c5,c6,c7,c8,c9⟩:=jr HSW.blk;have y9:=cell_regrown c9;have z0:=cell_regrown x0;have z1:=cell_regrown x1;have z2:=cell_regrown x2;have z3:=cell_regrown x3;have z4:=cell_regrown x4;have z5:=cell_regrown x5;have z6:=cell_regrown x6;clear x0 x1 x2 x3 x4 x5 x6 c0 c1 c2 c3 c4 c5 c6 c7 c8 c9;refine kN Aab ?_;show uX _ _ _ _ 11 (Array.replicate 11 false) _ _
 open apQ in exact ZX
open Go.RowKit Go.Maps Go.Sort
theorem aj6 (m:Nat):AnyZI.SortsIn Tryz.prog Tryz.sortedL_ren Fence.wide m:=
 ⟨λblk off cap ss W hH hblk hsz=>callsIn_wide.2 (AnyM.slices_Sort_int Tryz.sortL blk off cap ss W hH hblk hsz),
  λp cap W=>callsIn_wide.2 (AnyM.slices_Sort_int_none Tryz.sortL p cap W)⟩
theorem aep (mb:Option Nat) (W:World):Calls Tryz.prog 234 #[.map mb] W λe w'=>e= .returned (.func (.func 253) #[] #[.pointer (some ⟨W.heap.size,0,none⟩)])/\w'=W.alloc (.cells #[.map mb] 259):=
 callsIn_wide.1 (AnyZI.keys_in Tryz.keysL Fence.wide 5 trivial rfl mb W)
theorem acV {l ss:List Int} (hp:l.Pairwise (· < ·)) (h:ss.Perm l):ss.mergeSort (λx y=>decide (x<=y))=l:=by
 have h1:ss.mergeSort leI=l.mergeSort leI:=mergeSort_of_perm_i h;refine h1.trans (List.mergeSort_of_pairwise ?_);exact hp.imp (λ{a b} h=>by simp only[leI,decide_eq_true_eq];omega)
theorem Yt (B mb n:Nat) (l:List Int) (W:World) (hl:l.length<=1000) (hp:l.Pairwise (· < ·)) (hB:W.heap[B]?=some (.cells #[.map (some mb)] 259 (0,0))) (hs:gB W mb n l):
 Calls Tryz.prog 233 #[.func (.func 253) #[] #[.pointer (some ⟨B,0,none⟩)]] W λe w'=>∃v,e= .returned v/\w'.ownsRow W.heap.size 3 1 v l.length (GR.flat aS l)/\aY W w':=by
 obtain⟨D,hown,ha⟩:=hs;have hk:=gB.keys hown ha (hp.imp (λh=>Aaa));have hsz:Maps.size D=l.length:=by rw [Kl hown,hk.length_eq]
 have hcell:W.cell? ⟨B,0,none⟩=some (.map (some mb)):=cell_of_row W B 0 _ _ (0,0) hB
 have hseq:SeqGives Fence.wide 2 Tryz.prog 253 #[.pointer (some ⟨B,0,none⟩)] encZ (λss=>ss.Perm (intKeys D)) (Maps.size D) W:=
  AnyZI.keys_gives (ρ:=Tryz.keysL_ren) {Tryz.keysL with} Fence.wide _ trivial rfl Aaa B mb n D _ (aA hB) hcell hown
 have cS:=AnyZI.sorted_in Tryz.sortedL Fence.wide 5 trivial trivial trivial trivial rfl Aaa (aj6 _) (enters_of Tryz.func123 Aab rfl) 253 #[.pointer (some ⟨B,0,none⟩)] trivial (enters_of Tryz.func253 Aab rfl) _ _ (by rw [hsz];unfold maxLen;omega) (by rw [hsz];omega) _ hseq;change CallsIn _ _ Tryz.prog 233 _ _ _ at cS
 refine(callsIn_wide.1 cS).mono ?_;rintro e w' ⟨v,ss,rfl,hS,hrow,_,hb⟩;have hperm:ss.Perm l:=hS.trans hk.symm;rw [acV hp hperm,hperm.length_eq,<-Fh] at hrow;exact⟨v,rfl,hrow,hb⟩
theorem wY (sb mb n:Nat) (f low:Int) (l:List Int) (w:World) (hl:l.length<=1000) (hp:l.Pairwise (· < ·)) (hb:lG w sb mb low) (hs:gB w mb n l):
 Calls Tryz.prog 199 #[.pointer (some ⟨sb,0,none⟩),.int .i64 f] w λe w'=>∃v,e= .returned (.agg #[.int .i64 f,.int .i64 low,v])/\w'.ownsRow w.heap.size 3 1 v l.length (GR.flat aS l)/\aY w w':=by
 have hsl:=aA hb;have HB:=Hq hb;have HS:=Hq hs;have YN:=Hq aep;have EK:=Hq (λB W (h1:W.heap[B]?=_) (h2:gB W mb n l)=>Yt B mb n l W hl hp h1 h2);have hb1:=ay hb (au w (.cells #[.int .i64 0,.int .i64 0,.slice none 0 0] 90));obtain⟨⟨m0,m1⟩,_⟩:=nM hb1;clear hb hs hb1;go_in
 go_upto_region 1 with fail;have y0:=cell_regrown m0;have y1:=cell_regrown m1;clear m0 m1;refine bV 12 Aab ?_;show fD _ _ _ _ _ 13 (Array.replicate 13 false) _ _
 refine tk [0,1,2,3,4,5,6,7,8] ?_;iterate 9 (refine su (λK hK=>?_);go_simp;refine hK _ ?_;clear hK K)
 refine jc ?_;clear y0 y1;refine dM 9 rfl Aab Aad (λx hx=>?_);go_simp;have HX:=Hq hx;clear hx;refine(YN (some mb) x).mono ?_;rintro e y ⟨rfl,rfl⟩;refine⟨au x _,?_⟩;refine dM 10 rfl Aab Aad (λx2 hx2=>?_);go_simp;have HX2:=Hq hx2;have h1:x2.heap[x.heap.size]?=some (.cells #[.map (some mb)] 259 (0,0)):=ay (heap_alloc_new x _) hx2;have HG:=Hq (Ge.trans (Ge.trans HX (au x _)) hx2);have h2:gB x2 mb n l:=HS.kept ((HG.block mb (by have:=HS.lt;simp;omega)).trans (Below.heap_alloc _ _ _ HS.lt));have HCS:=Hq (EK x.heap.size x2 h1 h2);clear hx2 h1 h2 YN EK HX2;refine HCS.mono ?_;rintro e z ⟨v,rfl,hrow,hbz⟩;refine⟨hbz,?_⟩;obtain⟨av,cv,rfl,_⟩:=GR.own_at (enc:=aS) (sz:=1) aR hrow;have HRW:=Hq hrow;have HZ:=Hq (Ge.trans HG hbz);clear hrow hbz HCS;refine tk [11] ?_;(refine su (λK hK=>?_);go_simp;refine hK _ ?_;clear hK K)
 refine jc ?_;refine bf Aab (λx3 hx3=>?_);have NC:=Hq (Ge.trans HZ hx3);have HR3:=Hq (GR.own_below HRW hx3);have e3:x3.heap[w.heap.size]?=some (.cells #[.int .i64 0,.int .i64 0,.slice none 0 0] 90 (0,0)):=ay (heap_alloc_new w _) NC;have f0:=aj e3 0;have f1:=aj e3 1;have f2:=aj e3 2;have hw3:=aA e3;obtain⟨d0,d1,d2⟩:=three e3;have E3:=Hq e3;clear e3 hx3 HX HZ HRW;refine aF 12 rfl Aab Aad ?_;go_simp;refine wpAny_done Aab ?_;clear d0 d1 d2 f0 f1 f2;go_wp2_with fail;refine aO (λW' hW'=>?_)
 have e4:W'.heap[w.heap.size]?=some (.cells #[.int .i64 f,.int .i64 low,.slice av l.length cv] 90 (0,0)):=by
  rw [hW'];exact GR.setW_blk [.int .i64 f,.int .i64 low,.slice av l.length cv] (o:=0) (xs:=[.int .i64 0,.int .i64 0,.slice none 0 0]) E3
 have hsw:w.heap.size < x2.heap.size:=by have:=HG.size;simp at this;omega
 have hg:x3.grownBy W' (some w.heap.size):=by
  rw [hW'];exact⟨rfl,rfl,rfl,Aas,λk _ hk=>GR.setW_other (g':=k) (λe=>hk Aao) [.int .i64 f,.int .i64 low,.slice av l.length cv] (o:=0)⟩
 have hne:∀k,(Value.slice av l.length cv).ownBlock=some k->k≠w.heap.size:=λk hk=>by have:=(HR3.lt k hk).1;omega
 have hrow:W'.ownsRow x2.heap.size 3 1 (.slice av l.length cv) l.length (GR.flat aS l):=by
  refine HR3.kept (row:=some w.heap.size) hg ?_;cases hv:(Value.slice av l.length cv).ownBlock with
  |none=>exact .inl rfl
  |some k=>exact .inr (λe=>hne k hv (by injection e))
 have hbel:aY w W':=by
  rw [hW'];exact GR.setW_below (Nat.le_refl _) [.int .i64 f,.int .i64 low,.slice av l.length cv] (o:=0) ((au w _).trans (NC.mono Aac))
 have HRW:=Hq (ownsRow_base_a hrow (show w.heap.size<=x2.heap.size by omega));have iA:=Hq hbel;obtain⟨d0,d1,d2⟩:=three e4;clear hW' e4 hg hrow hbel;exact bodyPost_ret (v:= .agg #[.int .i64 f,.int .i64 low,.slice av l.length cv]) (by simp[results,Tryz.results199,go_sem,d0,d1,d2]) rfl ⟨_,rfl,HRW,iA⟩
theorem qJ {s:ByteArray} (hs:keyOk s.data.toList=true):s.size<=1048576:=by
 rcases Classical.em (1<=s.data.toList.length/\s.data.toList.length<=10) with h|h
 .have e:s.size=s.data.toList.length:=by rw [Array.length_toList];rfl
  omega
 .rw [keyOk_len _ h] at hs;cases hs
theorem aez (hok:dY n=true):eY n 1048576:=by
 obtain⟨h1,h2,h3,h4,h5,h6⟩:=cZ hok;have hq:=jl h6;have ho:=tq h5;have hn:=wu h1;have hpl:=h1;unfold dH at hpl;simp only[Bool.and_eq_true,decide_eq_true_eq] at hpl;have htl:=h3;unfold pJ at htl;rw [Bool.and_eq_true,decide_eq_true_eq] at htl;have hps:=(kJ n.pu).1 h2;refine⟨Aaa,Aaa,Aaa,by split at htl<;>omega,Aaa,λx hx=>?_,λx hx=>?_,λx hx=>?_,λx hx=>?_⟩
 .have:=hps.1 x hx;unfold gX at this;simp only[Bool.and_eq_true] at this;exact qJ (by first|exact this.1|exact this.1.1|exact this.1.1.1|exact this.1.1.1.1)
 .have:=ho.2.2 x hx;unfold vN at this;simp only[Bool.and_eq_true] at this;exact qJ this.1.2
 .have:=Ar hok x hx;unfold vO at this;simp only[Bool.and_eq_true,decide_eq_true_eq] at this;omega
 .exact qJ (kK (hq.2.2.1 x hx)).2.2.1
theorem aa5 (hz:eY n 1048576):eY (O3 n o).1 1048576:=by
 cases hok:dY n
 .rw [Em hok];exact hz
 .exact aez (VG hok)
end Go.Proofs.YtacgbldlonoaaaaGreatDoor
