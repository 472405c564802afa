/- Parts. -/
import Derived.Test.YtfmdndhliinhpaaGreatDoorRa6
namespace Go.Proofs.YtfmdndhliinhpaaGreatDoor
open Go.RowKit
open Mth
namespace Mth
theorem wS {n:Nd} (h1:dx n=true) (h2:iB n.pu=true) (h3:mJ n=true) (h4:eU n.next=true) (h5:pJ n=true) (h6:gF n=true):dJ n=true:=by
 unfold dJ;rw [h1,h2,h3,h4,h5,h6];rfl
theorem oL {l:List Pu} {key:ByteArray} {dm df ds n:Int} (h:iB l=true):iB (cK l key dm df ds n).1=true:=by
 unfold cK ow;split
 ·rename_i hc
  simp only[Bool.and_eq_true] at hc;exact hc.2
 ·exact h
theorem qG {n:Nd} {l:List Pu} (h:dJ n=true) (hl:iB l=true):dJ (setPu n l)=true:=by
 obtain⟨h1,_,h3,h4,h5,h6⟩:=bf h;exact wS h1 hl h3 h4 h5 h6
theorem FB {α:Type} {p:α→Bool} {f:α→Int} {l:List α} (h1:∀x∈l,p x=true) (h2:l.Pairwise (fun s t=>f s < f t)):gH p (fun s t=>gU (f s) (f t)) l=true:=
 (ql (p:=p) (r:=fun s t=>gU (f s) (f t)) (fun a b c h1 h2=>lU _ _ _ h1 h2)).2 ⟨h1,h2.imp (fun h=>by simpa [gU] using h)⟩
theorem YK {n:Nd} (h1:0≤n.old) (h2:n.old≤1000000000) (h3:n.reqs.length≤30) (h4:n.reqs.Pairwise (fun s t=>s.no < t.no)) (h5:∀q∈n.reqs,pR n q=true):gF n=true:=by
 unfold gF;rw [FB (f:=fun r:Rq=>r.no) h5 h4];simp[nS,h1,h2,h3]
theorem Gj {n:Nd} {q:Rq} (h1:n.old < q.no) (h2:q.no≤1000000000) (h3:keyOk q.k.data.toList=true) (h4:eU q.n=true) (h5:0≤q.s) (h6:q.s≤2):pR n q=true:=by
 unfold pR;rw [h3,h4];simp only[Bool.and_true,Bool.and_eq_true,decide_eq_true_eq];omega
theorem JI (l:List Rq) (q:Rq):(jN l q).length=l.length+1:=by
 have:=qP l q.no;unfold jN;simp;omega
theorem Vo {l:List Rq} {q r:Rq} (h:r∈jN l q):r=q∨r∈l:=by
 unfold jN at h;rcases List.mem_append.1 h with h|h
 ·exact .inr (List.mem_of_mem_take h)
 ·rcases List.mem_cons.1 h with h|h
  ·exact .inl h
  ·exact .inr (List.mem_of_mem_drop h)
theorem Vz {l:List Rq} {q:Rq}:q∈jN l q:=by
 unfold jN;simp
theorem JH {l:List Rq} {q:Rq} (hp:l.Pairwise (fun s t=>s.no < t.no)) (hf:jP l q.no=false):(jN l q).Pairwise (fun s t=>s.no < t.no):=by
 have hlt:∀i (hi:i < l.length),bH l q.no≤i→q.no < l[i].no:=fun i hi hle=>by
  have h1:=vB (no:=q.no) hp i hi hle
  rcases Int.lt_or_eq_of_le h1 with h|h
  ·exact h
  ·have:=(wZ hp hi h.symm).2;rw [hf] at this;cases this
 unfold jN;rw [List.pairwise_append,List.pairwise_cons];refine⟨hp.sublist (List.take_sublist _ _),⟨fun r hr=>?_,hp.sublist (List.drop_sublist _ _)⟩,fun r hr s hs=>?_⟩
 ·obtain⟨i,hi,rfl⟩:=List.mem_iff_getElem.1 hr;rw [List.getElem_drop];exact hlt _ _ (by omega)
 ·obtain⟨i,hi,rfl⟩:=List.mem_iff_getElem.1 hr;rw [List.getElem_take];have hi':i < bH l q.no:=by simp at hi;omega
  have hil:i < l.length:=by have:=qP l q.no;omega
  have h1:=vC l q.no i hil hi';rcases List.mem_cons.1 hs with rfl|hs
  ·exact h1
  ·obtain⟨j,hj,rfl⟩:=List.mem_iff_getElem.1 hs;rw [List.getElem_drop];have:=hlt (bH l q.no+j) (by simp at hj;omega) (by omega);omega
theorem qH {n:Nd} {l:List Rq} {x:Int} (h:dJ n=true) (h1:0≤x) (h2:x≤1000000000) (h3:l.length≤30) (h4:l.Pairwise (fun s t=>s.no < t.no)) (h5:∀q∈l,pR (iM n x) q=true):dJ (bZ (iM n x) l)=true:=by
 obtain⟨g1,g2,g3,g4,g5,_⟩:=bf h;exact wS g1 g2 g3 g4 g5 (YK h1 h2 h3 h4 h5)
theorem QA {n:Nd} {q:Rq} (h:dJ n=true) (hf:jP n.reqs q.no=false) (h1:n.old < q.no) (h2:q.no≤1000000000) (h3:keyOk q.k.data.toList=true) (h4:eU q.n=true) (h5:0≤q.s) (h6:q.s≤2):dJ (iE n q)=true:=by
 obtain⟨_,_,_,_,_,g6⟩:=bf h;obtain⟨a1,a2,a3,a4,a5⟩:=fF g6;have hasc:=JH a1 hf;have hlen:=JI n.reqs q
 have hall:∀r∈jN n.reqs q,pR n r=true:=fun r hr=>by
  rcases Vo hr with rfl|hr
  ·exact Gj h1 h2 h3 h4 h5 h6
  ·exact a3 r hr
 unfold iE;split
 ·cases hc:jN n.reqs q with
  |nil=>rw [hc] at hlen;simp at hlen
  |cons r l=>
   rw [hc] at hasc hall hlen
   have hp:=List.pairwise_cons.1 hasc
   have hr:=jm (hall r (by simp))
   simp only[List.headD_cons,List.tail_cons]
   refine qH h (by omega) hr.2.1 (by simp at hlen;omega) hp.2 (fun s hs=>?_)
   have b:=jm (hall s (by simp[hs]))
   exact Gj (hp.1 s hs) b.2.1 b.2.2.1 b.2.2.2.1 b.2.2.2.2.1 b.2.2.2.2.2
 ·rename_i hc
  have e:bZ n (jN n.reqs q)=bZ (iM n n.old) (jN n.reqs q):=rfl;rw [e];exact qH h a4 a5 (by omega) hasc hall
theorem M4 {n:Nd} {no:Int} {key:ByteArray} {a:Int} (h:dJ n=true) (h2:no≤1000000000) (h3:keyOk key.data.toList=true) (h4:eU a=true):dJ (bV n no key a).1=true:=by
 unfold bV;split
 ·exact h
 ·split
  ·exact h
  ·rename_i hs hf
   have hpu:=qG (l:=(cK n.pu key 0 (-1) 1 a).1) h (oL (bf h).2.1);refine QA hpu ?_ ?_ h2 h3 h4 ?_ ?_
   ·show jP n.reqs no=false
    simpa using hf
   ·show n.old < no
    omega
   ·dsimp only;split<;>omega
   ·dsimp only;split<;>omega
theorem wu {l:List Rq} {i:Nat} (hi:i < l.length):l.getD i default=l[i]:=by rw [List.getD_eq_getElem?_getD,List.getElem?_eq_getElem hi];rfl
theorem wT {n:Nd} {no:Int} (h:dJ n=true):dJ (aI n no).1=true:=by
 unfold aI;split
 ·exact h
 ·split
  ·exact h
  ·split
   ·exact h
   ·split
    ·exact h
    ·split
     ·rename_i hf _ _ hp
      obtain⟨hi,hno⟩:=(lu n.reqs no).1 (by simpa using hf);have hpu:=qG (l:=(cK n.pu (n.reqs.getD (bH n.reqs no) default).k 0 1 (-1) (n.reqs.getD (bH n.reqs no) default).n).1) h (oL (bf h).2.1);obtain⟨_,_,_,_,_,g6⟩:=bf h;obtain⟨a1,a2,a3,a4,a5⟩:=fF g6;rw [wu hi] at hpu ⊢;have hb:=jm (a3 _ (List.getElem_mem hi));have e:∀l,bZ (setPu n l) (n.reqs.set (bH n.reqs no) (iY n.reqs[bH n.reqs no]))=bZ (iM (setPu n l) (setPu n l).old) (n.reqs.set (bH n.reqs no) (iY n.reqs[bH n.reqs no])):=fun _=>rfl
      rw [e];refine qH hpu a4 a5 (by simpa using a2) ?_ ?_
      ·rw [List.pairwise_iff_getElem] at a1 ⊢;intro i j hi' hj' hij
       have e2:∀k (hk:k < (n.reqs.set (bH n.reqs no) (iY n.reqs[bH n.reqs no])).length),((n.reqs.set (bH n.reqs no) (iY n.reqs[bH n.reqs no]))[k]).no=(n.reqs[k]'(by simpa using hk)).no:=fun k hk=>by
        rw [List.getElem_set]
        split
        ·rename_i he;subst he;rfl
        ·rfl
       rw [e2 i hi',e2 j hj'];exact a1 i j (by simpa using hi') (by simpa using hj') hij
      ·intro q hq;rcases List.mem_or_eq_of_mem_set hq with hq|rfl
       ·exact a3 q hq
       ·exact Gj (show n.old < _ by have:=hb.1;simp only[iY];omega) hb.2.1 hb.2.2.1 hb.2.2.2.1 (by simp[iY]) (by simp[iY])
     ·exact h
theorem EB {n:Nd} {dst:Int} {key:ByteArray} {a:Int} (h:dJ n=true) (hd:dH n dst=true) (hk:keyOk key.data.toList=true) (ha:a≤1000000000):dJ (eu n dst key a).1=true:=by
 unfold eu;split
 ·rename_i hp
  obtain⟨g1,g2,g3,g4,g5,g6⟩:=bf h;obtain⟨o1,o2,o3⟩:=pO g5;unfold J4 at hp;have hp:=of_decide_eq_true hp;have hn:1≤n.next∧n.next≤1000000000:=by simpa [eU] using g4
  have hle:mX n key a≤1000000000:=by unfold mX;split<;>omega
  refine wS g1 (oL g2) g3 ?_ ?_ g6
  ·show eU (n.next+1)=true
   unfold eU;simp only[decide_eq_true_eq];omega
  ·unfold pJ;have e:(oo n dst key (mX n key a)).out=n.out++[⟨n.next,dst,key,mX n key a⟩]:=rfl;rw [e];rw [FB (f:=fun r:jH=>r.i)]
   ·simp;omega
   ·intro s hs;have eB:∀s,rJ (oo n dst key (mX n key a)) s=(decide (1≤s.i∧s.i≤n.next+1 - 1)&&dH n s.t&&keyOk s.k.data.toList&&eU s.n):=fun _=>rfl
    rw [eB];rcases List.mem_append.1 hs with hs|hs
    ·have:=o3 s hs;unfold rJ at this;simp only[Bool.and_eq_true,decide_eq_true_eq] at this ⊢;exact⟨⟨⟨by omega,this.1.1.2⟩,this.1.2⟩,this.2⟩
    ·obtain rfl:s=⟨n.next,dst,key,mX n key a⟩:=by simpa using hs
     simp only[Bool.and_eq_true,decide_eq_true_eq];refine⟨⟨⟨by omega,hd⟩,hk⟩,?_⟩;unfold eU;simp only[decide_eq_true_eq];omega
   ·rw [List.pairwise_append];refine⟨o1,by simp,fun s hs t ht=>?_⟩;obtain rfl:t=⟨n.next,dst,key,mX n key a⟩:=by simpa using ht
    have:=o3 s hs;unfold rJ at this;simp only[Bool.and_eq_true,decide_eq_true_eq] at this;show s.i < n.next
    omega
 ·exact h
theorem xA {n:Nd} (h:dJ n=true) {f:Int} (hf:dH n f=true):∃hi:dU n.seen f < n.seen.length,n.seen[dU n.seen f].f=f:=by
 obtain⟨g1,_,g3,_,_,_⟩:=bf h;rw [qR g1,Bool.and_eq_true,decide_eq_true_eq] at g3;have hm:f∈n.seen.map (·.f):=by rw [g3.1,xI];exact(sH g1 f).1 hf
 obtain⟨s,hs,rfl⟩:=List.mem_map.1 hm;have hx:dU n.seen s.f < n.seen.length:=List.findIdx_lt_length_of_exists ⟨s,hs,by simp⟩;exact⟨hx,of_decide_eq_true (List.findIdx_getElem (p:=fun t:Sn=>decide (t.f=s.f)) (w:=hx))⟩
theorem xB {n:Nd} (h:dJ n=true):∀s∈n.seen,rM s=true:=by
 obtain⟨g1,_,g3,_,_,_⟩:=bf h;rw [qR g1,Bool.and_eq_true] at g3;exact List.all_eq_true.1 g3.2
theorem pX {s:Sn} (h:rM s=true):1≤s.l∧s.l≤1000000000∧s.ids.length≤40∧(∀x∈s.ids,s.l≤x∧x≤1000000000)∧s.ids.Pairwise (· < ·):=by
 unfold rM at h;simp only[Bool.and_eq_true,decide_eq_true_eq] at h;have h1:1≤s.l∧s.l≤1000000000:=by simpa [eU] using h.1.1
 have h2:=(ql (p:=xU s.l) (r:=gU) lU).1 h.2;exact⟨h1.1,h1.2,h.1.2,fun x hx=>by simpa [xU] using h2.1 x hx,h2.2.imp (fun h=>by simpa [gU] using h)⟩
theorem VZ {s:Sn} (h1:1≤s.l) (h2:s.l≤1000000000) (h3:s.ids.length≤40) (h4:∀x∈s.ids,s.l≤x∧x≤1000000000) (h5:s.ids.Pairwise (· < ·)):rM s=true:=by
 unfold rM;rw [(ql (p:=xU s.l) (r:=gU) lU).2 ⟨fun x hx=>by simpa [xU] using h4 x hx,h5.imp (fun h=>by simpa [gU] using h)⟩];simp[eU,h1,h2,h3]
theorem wU {n:Nd} {i:Nat} (hi:i < n.seen.length) {s:Sn} (h:dJ n=true) (hf:s.f=n.seen[i].f) (hs:rM s=true):dJ (bn n (n.seen.set i s))=true:=by
 obtain⟨g1,g2,g3,g4,g5,g6⟩:=bf h;refine wS g1 g2 ?_ g4 g5 g6;have g1':dx (bn n (n.seen.set i s))=true:=g1;rw [qR g1',Bool.and_eq_true,decide_eq_true_eq];rw [qR g1,Bool.and_eq_true,decide_eq_true_eq] at g3;refine⟨?_,?_⟩
 ·show(n.seen.set i s).map (·.f)=GX (jO n)
  rw [←g3.1,List.map_set,hf];apply List.ext_getElem?
  intro j;rw [List.getElem?_set];split
  ·rename_i e
   subst e;simp[hi]
  ·rfl
 ·show(n.seen.set i s).all rM=true
  rw [List.all_eq_true];intro x hx;rcases List.mem_or_eq_of_mem_set hx with hx|rfl
  ·exact List.all_eq_true.1 g3.2 x hx
  ·exact hs
theorem OP {s:Sn} {low:Int} (h:rM s=true) (h1:low≤1000000000):1≤bY s low∧bY s low≤1000000000∧s.l≤bY s low∧low≤bY s low:=by
 have:=pX h;unfold bY;split<;>omega
theorem FT {s:Sn} {low:Int} (h:rM s=true) (h1:low≤1000000000):rM ⟨s.f,bY s low,aQ s low⟩=true:=by
 have hl:=OP h h1;obtain⟨a1,a2,a3,a4,a5⟩:=pX h;refine VZ hl.1 hl.2.1 ?_ ?_ ?_
 ·exact Nat.le_trans (List.length_filter_le _ _) a3
 ·intro x hx;have:=List.mem_filter.1 hx;exact⟨by simpa using this.2,(a4 x this.1).2⟩
 ·exact a5.sublist List.filter_sublist
theorem He (x:Int):∀(l:List Int),∀y∈l.takeWhile (fun y=>decide (y < x)),y < x:=by
 intro l;induction l with
 |nil=>intro y hy;simp at hy
 |cons z l ih=>
  intro y hy
  by_cases hz:z < x
  ·rw [List.takeWhile_cons_of_pos (by simpa using hz)] at hy;rcases List.mem_cons.1 hy with rfl|hy
   ·exact hz
   ·exact ih y hy
  ·rw [List.takeWhile_cons_of_neg (by simpa using hz)] at hy;cases hy
theorem vZ (x:Int):∀(l:List Int),l.Pairwise (· < ·)→∀y∈l.dropWhile (fun y=>decide (y < x)),x≤y:=by
 intro l;induction l with
 |nil=>intro _ y hy;simp at hy
 |cons z l ih=>
  intro hp y hy
  by_cases hz:z < x
  ·rw [List.dropWhile_cons_of_pos (by simpa using hz)] at hy;exact ih (List.pairwise_cons.1 hp).2 y hy
  ·rw [List.dropWhile_cons_of_neg (by simpa using hz)] at hy;rcases List.mem_cons.1 hy with rfl|hy
   ·omega
   ·have:=(List.pairwise_cons.1 hp).1 y hy;omega
theorem zn (l:List Int) (x:Int):(jy l x).length=l.length+1:=by
 unfold jy;have:=congrArg List.length (List.takeWhile_append_dropWhile (p:=fun y=>decide (y < x)) (l:=l));rw [List.length_append] at this;rw [List.length_append,List.length_cons];omega
theorem wH {l:List Int} {x y:Int}:y∈jy l x↔y=x∨y∈l:=by
 unfold jy;have e:=List.takeWhile_append_dropWhile (p:=fun y=>decide (y < x)) (l:=l);constructor
 ·intro h;rcases List.mem_append.1 h with h|h
  ·exact .inr ((List.takeWhile_sublist _).mem h)
  ·rcases List.mem_cons.1 h with h|h
   ·exact .inl h
   ·exact .inr ((List.dropWhile_sublist _).mem h)
 ·rintro(rfl|h)
  ·simp
  ·rw [←e] at h;rcases List.mem_append.1 h with h|h
   ·exact List.mem_append.2 (.inl h)
   ·exact List.mem_append.2 (.inr (List.mem_cons_of_mem _ h))
theorem JF {l:List Int} {x:Int} (hp:l.Pairwise (· < ·)) (hx:x∉l):(jy l x).Pairwise (· < ·):=by
 unfold jy;rw [List.pairwise_append,List.pairwise_cons];refine⟨hp.sublist (List.takeWhile_sublist _),⟨fun y hy=>?_,hp.sublist (List.dropWhile_sublist _)⟩,fun y hy z hz=>?_⟩
 ·have h1:=vZ x l hp y hy;have h2:y≠x:=fun e=>hx (e▸(List.dropWhile_sublist _).mem hy)
  omega
 ·have h1:=He x l y hy;rcases List.mem_cons.1 hz with rfl|hz
  ·exact h1
  ·have h2:=vZ x l hp z hz;omega
theorem FH {s:Sn} {low i:Int} (h:lT s low i=false):bY s low≤i∧i∉aQ s low:=by
 unfold lT at h;rw [Bool.or_eq_false_iff] at h;refine⟨by simpa using h.1,fun hm=>?_⟩;rw [(wC _ _).2 hm] at h;cases h.2
theorem tY {l:List Sn} {i:Nat} (hi:i < l.length):l.getD i default=l[i]:=by rw [List.getD_eq_getElem?_getD,List.getElem?_eq_getElem hi];rfl
theorem QB {n:Nd} {m:Mg} (h:dJ n=true) (hd:dH n m.F=true) (hL:m.L≤1000000000) (hI:m.I≤1000000000):dJ (takeN n m).1=true:=by
 obtain⟨hi,hf⟩:=xA h hd;have hs:=xB h _ (List.getElem_mem hi);unfold takeN;rw [tY hi];split
 ·exact acd
 ·split
  ·rename_i h1 h2
   have h1':lT n.seen[dU n.seen m.F] m.L m.I=false:=by simpa using h1
   obtain⟨b1,b2⟩:=FH h1';have ho:=pX (FT hs hL);have hl:=OP hs hL;unfold jE at h2;simp only[Bool.and_eq_true,decide_eq_true_eq] at h2;have hpu:=qG (l:=(cK n.pu m.k 0 1 0 m.N).1) h (oL (bf h).2.1);refine wU (n:=setPu n (cK n.pu m.k 0 1 0 m.N).1) hi hpu hf.symm ?_;refine VZ hl.1 hl.2.1 ?_ ?_ ?_
   ·show(jy (aQ n.seen[dU n.seen m.F] m.L) m.I).length≤40
    rw [zn];omega
   ·intro x hx;rcases wH.1 hx with rfl|hx
    ·exact⟨b1,hI⟩
    ·exact ho.2.2.2.1 x hx
   ·exact JF ho.2.2.2.2 b2
  ·exact acd
theorem JU {n:Nd} {p:jH→Bool} (h:dJ n=true):dJ (setOut n (n.out.filter p))=true:=by
 obtain⟨g1,g2,g3,g4,g5,g6⟩:=bf h;obtain⟨o1,o2,o3⟩:=pO g5;refine wS g1 g2 g3 g4 ?_ g6;unfold pJ;have e:(setOut n (n.out.filter p)).out=n.out.filter p:=rfl;rw [e,FB (f:=fun r:jH=>r.i)]
 ·simp only[Bool.and_true,decide_eq_true_eq];exact Nat.le_trans (List.length_filter_le _ _) o2
 ·intro s hs;exact o3 s (List.mem_filter.1 hs).1
 ·exact o1.sublist List.filter_sublist
theorem BM {m:Mg} (h:dw m=true) (hK:m.K=1):1≤m.I∧m.I≤1000000000∧1≤m.L∧m.L≤1000000000∧keyOk m.k.data.toList=true∧1≤m.N∧m.N≤1000000000:=by
 unfold dw at h;simp[hK,eU] at h;refine⟨?_,?_,?_,?_,?_,?_,?_⟩<;>first|omega|simp_all
theorem EA {m:Mg} (h:dw m=true) (hK:m.K=0):keyOk m.k.data.toList=true∧1≤m.N∧m.N≤1000000000:=by
 unfold dw at h;simp[hK,eU] at h;refine⟨?_,?_,?_⟩<;>first|omega|simp_all
theorem yN {m:Mg} (h:dw m=true):m.K=0∨m.K=1∨m.K=2:=by
 unfold dw at h;by_cases h0:m.K=0
 ·exact .inl h0
 ·by_cases h1:m.K=1
  ·exact .inr (.inl h1)
  ·by_cases h2:m.K=2
   ·exact .inr (.inr h2)
   ·exfalso
    simp[h0,h1,h2] at h
theorem Qz {n:Nd} {m:Mg} (h:dJ n=true) (hm:dw m=true) (hd:dH n m.F=true):dJ (eD n m).1=true:=by
 unfold eD;split
 ·rename_i hK
  have hp:=BM hm hK;exact QB h hd hp.2.2.2.1 hp.2.1
 ·split
  ·exact JU h
  ·split
   ·rename_i h1 h2 _
    have hK:m.K=0:=by rcases yN hm with h|h|h<;>omega
    have hp:=EA hm hK;exact EB h hd hp.1 hp.2.2
   ·exact h
theorem VG {n:Nd} (h:dJ n=true) (hp:¬n.par= -1):dH n n.par=true:=by
 have:=(lV (bf h).1).2.2;unfold dH;rw [decide_eq_true (show 0≤n.par by omega)];simp
theorem JZ {o:iK} (h:cZ o=true) (hK:o.K=0∨o.K=3∨o.K=4):keyOk o.k.data.toList=true∧1≤o.n∧o.n≤1000000000:=by
 unfold cZ at h;rw [if_pos hK] at h;simp only[Bool.and_eq_true] at h;have:=h.1.1.2;unfold eU at this;have:=of_decide_eq_true this;exact⟨h.1.1.1,this.1,this.2⟩
theorem BP {o:iK} (h:cZ o=true) (hK:o.K=1):keyOk o.k.data.toList=true∧1≤o.n∧o.n≤1000000000∧1≤o.no∧o.no≤1000000000:=by
 unfold cZ at h;rw [if_neg (by omega),if_pos hK] at h;simp only[Bool.and_eq_true] at h;have h1:=h.1.1.2;have h2:=h.1.2;unfold eU at h1 h2;have h1:=of_decide_eq_true h1;have h2:=of_decide_eq_true h2;exact⟨h.1.1.1,h1.1,h1.2,h2.1,h2.2⟩
theorem Gd {o:iK} (h:cZ o=true) (hK:o.K=2):1≤o.no∧o.no≤1000000000:=by
 unfold cZ at h;rw [if_neg (by omega),if_neg (by omega),if_pos hK] at h;simp only[Bool.and_eq_true] at h;have h2:=h.1.2;unfold eU at h2;exact of_decide_eq_true h2
theorem yP {o:iK} (h:cZ o=true) (hK:o.K=6):dw o.m=true:=by
 unfold cZ at h;rw [if_neg (by omega),if_neg (by omega),if_neg (by omega),if_neg (by omega),if_pos hK] at h;simp only[Bool.and_eq_true] at h;exact h.2
theorem EC {o:iK} (h:cZ o=true):o.K=0∨o.K=1∨o.K=2∨o.K=3∨o.K=4∨o.K=5∨o.K=6:=by
 unfold cZ at h;split at h
 ·omega
 ·split at h
  ·omega
  ·split at h
   ·omega
   ·split at h
    ·omega
    ·split at h
     ·omega
     ·cases h
theorem uO {n:Nd} {o:iK} (h:mQ n o=true) (hK:o.K=6):o.m.T=n.id∧dH n o.m.F=true:=by
 unfold mQ at h;simpa [hK] using h
theorem VF {n:Nd} {o:iK} (h:dJ n=true) (ho:cZ o=true) (ha:mQ n o=true):dJ (dX n o).1=true:=by
 unfold dX;split
 ·split
  ·exact qG h (oL (bf h).2.1)
  ·exact h
 ·split
  ·rename_i hK
   have hp:=BP ho hK;exact M4 h hp.2.2.2.2 hp.1 (by unfold eU;simp only[decide_eq_true_eq];omega)
  ·split
   ·exact wT h
   ·split
    ·split
     ·exact h
     ·exact h
    ·split
     ·split
      ·exact h
      ·rename_i hK hpar
       have hp:=JZ ho (by omega);exact EB h (VG h hpar) hp.1 hp.2.2
     ·split
      ·exact h
      ·have hK:o.K=6:=by rcases EC ho with h|h|h|h|h|h|h<;>omega
       exact Qz h (yP ho hK) (uO ha hK).2
theorem VI {n:Nd} {o:iK} (h:dJ n=true):dJ (jJ n o).1=true:=by
 unfold jJ;split
 ·rename_i hc
  rw [Bool.and_eq_true] at hc;exact VF h hc.1 hc.2
 ·exact h
theorem Gb {n:Nd} {o:iK} (h:dJ n=true):dJ (lK n o).1=true:=by rw [rW h];exact VI h
end Mth
end Go.Proofs.YtfmdndhliinhpaaGreatDoor
