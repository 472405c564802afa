/- Parts. -/
import Derived.Test.YtacgbldlonoaaaaGreatDoorRa6
namespace Go.Proofs.YtacgbldlonoaaaaGreatDoor
open Go.RowKit
open Mth
namespace Mth
theorem vP {n:Nd} (h1:bQ n=true) (h2:ig n.pu=true) (h3:lC n=true) (h4:eD n.next=true) (h5:nZ n=true) (h6:fQ n=true):dG n=true:=by
 unfold dG;rw [h1,h2,h3,h4,h5,h6];rfl
theorem nR {l:List Pu} {key:ByteArray} {dm df ds n:Int} (h:ig l=true):ig (bV l key dm df ds n).1=true:=by
 unfold bV nJ;split
 ·rename_i hc
  simp only[Bool.and_eq_true] at hc;exact hc.2
 ·exact h
theorem pO {n:Nd} {l:List Pu} (h:dG n=true) (hl:ig l=true):dG (setPu n l)=true:=by
 obtain⟨h1,_,h3,h4,h5,h6⟩:=bq h;exact vP h1 hl h3 h4 h5 h6
theorem Eb {α:Type} {p:α→Bool} {f:α→Int} {l:List α} (h1:∀x∈l,p x=true) (h2:l.Pairwise (fun s t=>f s < f t)):fT p (fun s t=>gJ (f s) (f t)) l=true:=
 (oN (p:=p) (r:=fun s t=>gJ (f s) (f t)) (fun a b c h1 h2=>kH _ _ _ h1 h2)).2 ⟨h1,h2.imp (fun h=>by simpa [gJ] using h)⟩
theorem VY {n:Nd} (h1:0≤n.old) (h2:n.old≤1000000000) (h3:n.reqs.length≤30) (h4:n.reqs.Pairwise (fun s t=>s.no < t.no)) (h5:∀q∈n.reqs,oo n q=true):fQ n=true:=by
 unfold fQ;rw [Eb (f:=fun r:Rq=>r.no) h5 h4];simp[mW,h1,h2,h3]
theorem EI {n:Nd} {q:Rq} (h1:n.old < q.no) (h2:q.no≤1000000000) (h3:keyOk q.k.data.toList=true) (h4:eD q.n=true) (h5:0≤q.s) (h6:q.s≤2):oo n q=true:=by
 unfold oo;rw [h3,h4];simp only[Bool.and_true,Bool.and_eq_true,decide_eq_true_eq];omega
theorem H6 (l:List Rq) (q:Rq):(nN l q).length=l.length+1:=by
 have:=rO l q.no;unfold nN;simp;omega
theorem Sk {l:List Rq} {q r:Rq} (h:r∈nN l q):r=q∨r∈l:=by
 unfold nN at h;rcases List.mem_append.1 h with h|h
 ·exact .inr (List.mem_of_mem_take h)
 ·rcases List.mem_cons.1 h with h|h
  ·exact .inl h
  ·exact .inr (List.mem_of_mem_drop h)
theorem an7 {l:List Rq} {q:Rq}:q∈nN l q:=by
 unfold nN;simp
theorem Sj {l:List Rq} {q:Rq} (hp:l.Pairwise (fun s t=>s.no < t.no)) (hf:kK l q.no=false):(nN l q).Pairwise (fun s t=>s.no < t.no):=by
 have hlt:∀i (hi:i < l.length),dx l q.no≤i→q.no < l[i].no:=fun i hi hle=>by
  have h1:=um (no:=q.no) hp i hi hle
  rcases Int.lt_or_eq_of_le h1 with h|h
  ·exact h
  ·have:=(Iw hp hi h.symm).2;rw [hf] at this;cases this
 unfold nN;rw [List.pairwise_append,List.pairwise_cons];refine⟨hp.sublist (List.take_sublist _ _),⟨fun r hr=>?_,hp.sublist (List.drop_sublist _ _)⟩,fun r hr s hs=>?_⟩
 ·obtain⟨i,hi,rfl⟩:=List.mem_iff_getElem.1 hr;rw [List.getElem_drop];exact hlt _ _ (by omega)
 ·obtain⟨i,hi,rfl⟩:=List.mem_iff_getElem.1 hr;rw [List.getElem_take];have hi':i < dx l q.no:=by simp at hi;omega
  have hil:i < l.length:=by have:=rO l q.no;omega
  have h1:=uo l q.no i hil hi';rcases List.mem_cons.1 hs with rfl|hs
  ·exact h1
  ·obtain⟨j,hj,rfl⟩:=List.mem_iff_getElem.1 hs;rw [List.getElem_drop];have:=hlt (dx l q.no+j) (by simp at hj;omega) (by omega);omega
theorem pQ {n:Nd} {l:List Rq} {x:Int} (h:dG n=true) (h1:0≤x) (h2:x≤1000000000) (h3:l.length≤30) (h4:l.Pairwise (fun s t=>s.no < t.no)) (h5:∀q∈l,oo (jR n x) q=true):dG (dD (jR n x) l)=true:=by
 obtain⟨g1,g2,g3,g4,g5,_⟩:=bq h;exact vP g1 g2 g3 g4 g5 (VY h1 h2 h3 h4 h5)
theorem Oq {n:Nd} {q:Rq} (h:dG n=true) (hf:kK n.reqs q.no=false) (h1:n.old < q.no) (h2:q.no≤1000000000) (h3:keyOk q.k.data.toList=true) (h4:eD q.n=true) (h5:0≤q.s) (h6:q.s≤2):dG (jO n q)=true:=by
 obtain⟨_,_,_,_,_,g6⟩:=bq h;obtain⟨a1,a2,a3,a4,a5⟩:=gQ g6;have hasc:=Sj a1 hf;have hlen:=H6 n.reqs q
 have hall:∀r∈nN n.reqs q,oo n r=true:=fun r hr=>by
  rcases Sk hr with rfl|hr
  ·exact EI h1 h2 h3 h4 h5 h6
  ·exact a3 r hr
 unfold jO;split
 ·cases hc:nN n.reqs q with
  |nil=>rw [hc] at hlen;simp at hlen
  |cons r l=>
   rw [hc] at hasc hall hlen
   have hp:=List.pairwise_cons.1 hasc
   have hr:=iV (hall r (by simp))
   simp only[List.headD_cons,List.tail_cons]
   refine pQ h (by omega) hr.2.1 (by simp at hlen;omega) hp.2 (fun s hs=>?_)
   have b:=iV (hall s (by simp[hs]))
   exact EI (hp.1 s hs) b.2.1 b.2.2.1 b.2.2.2.1 b.2.2.2.2.1 b.2.2.2.2.2
 ·rename_i hc
  have e:dD n (nN n.reqs q)=dD (jR n n.old) (nN n.reqs q):=rfl;rw [e];exact pQ h a4 a5 (by omega) hasc hall
theorem Kv {n:Nd} {no:Int} {key:ByteArray} {a:Int} (h:dG n=true) (h2:no≤1000000000) (h3:keyOk key.data.toList=true) (h4:eD a=true):dG (eP n no key a).1=true:=by
 unfold eP;split
 ·exact h
 ·split
  ·exact h
  ·rename_i hs hf
   have Z0:=pO (l:=(bV n.pu key 0 (-1) 1 a).1) h (nR (bq h).2.1);refine Oq Z0 ?_ ?_ h2 h3 h4 ?_ ?_
   ·show kK n.reqs no=false
    simpa using hf
   ·show n.old < no
    omega
   ·dsimp only;split<;>omega
   ·dsimp only;split<;>omega
theorem Rl {l:List Rq} {i:Nat} (hi:i < l.length):l.getD i default=l[i]:=by rw [List.getD_eq_getElem?_getD,List.getElem?_eq_getElem hi];rfl
theorem EB {n:Nd} {no:Int} (h:dG n=true):dG (aX n no).1=true:=by
 unfold aX;split
 ·exact h
 ·split
  ·exact h
  ·split
   ·exact h
   ·split
    ·exact h
    ·split
     ·rename_i hf _ _ hp
      obtain⟨hi,hno⟩:=(lu n.reqs no).1 (by simpa using hf);have Z0:=pO (l:=(bV n.pu (n.reqs.getD (dx n.reqs no) default).k 0 1 (-1) (n.reqs.getD (dx n.reqs no) default).n).1) h (nR (bq h).2.1);obtain⟨_,_,_,_,_,g6⟩:=bq h;obtain⟨a1,a2,a3,a4,a5⟩:=gQ g6;rw [Rl hi] at Z0 ⊢;have hb:=iV (a3 _ (List.getElem_mem hi));have e:∀l,dD (setPu n l) (n.reqs.set (dx n.reqs no) (lV n.reqs[dx n.reqs no]))=dD (jR (setPu n l) (setPu n l).old) (n.reqs.set (dx n.reqs no) (lV n.reqs[dx n.reqs no])):=fun _=>rfl
      rw [e];refine pQ Z0 a4 a5 (by simpa using a2) ?_ ?_
      ·rw [List.pairwise_iff_getElem] at a1 ⊢;intro i j hi' hj' hij
       have e2:∀k (hk:k < (n.reqs.set (dx n.reqs no) (lV n.reqs[dx n.reqs no])).length),((n.reqs.set (dx n.reqs no) (lV n.reqs[dx n.reqs no]))[k]).no=(n.reqs[k]'(by simpa using hk)).no:=fun k hk=>by
        rw [List.getElem_set]
        split
        ·rename_i he;subst he;rfl
        ·rfl
       rw [e2 i hi',e2 j hj'];exact a1 i j (by simpa using hi') (by simpa using hj') hij
      ·intro q hq;rcases List.mem_or_eq_of_mem_set hq with hq|rfl
       ·exact a3 q hq
       ·exact EI (show n.old < _ by have:=hb.1;simp only[lV];omega) hb.2.1 hb.2.2.1 hb.2.2.2.1 (by simp[lV]) (by simp[lV])
     ·exact h
theorem Dh {n:Nd} {dst:Int} {key:ByteArray} {a:Int} (h:dG n=true) (hd:dB n dst=true) (hk:keyOk key.data.toList=true) (ha:a≤1000000000):dG (dV n dst key a).1=true:=by
 unfold dV;split
 ·rename_i hp
  obtain⟨g1,g2,g3,g4,g5,g6⟩:=bq h;obtain⟨o1,o2,o3⟩:=og g5;unfold Iu at hp;have hp:=of_decide_eq_true hp;have hn:1≤n.next∧n.next≤1000000000:=by simpa [eD] using g4
  have hle:lN n key a≤1000000000:=by unfold lN;split<;>omega
  refine vP g1 (nR g2) g3 ?_ ?_ g6
  ·show eD (n.next+1)=true
   unfold eD;simp only[decide_eq_true_eq];omega
  ·unfold nZ;have e:(nG n dst key (lN n key a)).out=n.out++[⟨n.next,dst,key,lN n key a⟩]:=rfl;rw [e];rw [Eb (f:=fun r:jm=>r.i)]
   ·simp;omega
   ·intro s hs;have eB:∀s,qy (nG n dst key (lN n key a)) s=(decide (1≤s.i∧s.i≤n.next+1 - 1)&&dB n s.t&&keyOk s.k.data.toList&&eD s.n):=fun _=>rfl
    rw [eB];rcases List.mem_append.1 hs with hs|hs
    ·have:=o3 s hs;unfold qy at this;simp only[Bool.and_eq_true,decide_eq_true_eq] at this ⊢;exact⟨⟨⟨by omega,this.1.1.2⟩,this.1.2⟩,this.2⟩
    ·obtain rfl:s=⟨n.next,dst,key,lN n key a⟩:=by simpa using hs
     simp only[Bool.and_eq_true,decide_eq_true_eq];refine⟨⟨⟨by omega,hd⟩,hk⟩,?_⟩;unfold eD;simp only[decide_eq_true_eq];omega
   ·rw [List.pairwise_append];refine⟨o1,by simp,fun s hs t ht=>?_⟩;obtain rfl:t=⟨n.next,dst,key,lN n key a⟩:=by simpa using ht
    have:=o3 s hs;unfold qy at this;simp only[Bool.and_eq_true,decide_eq_true_eq] at this;show s.i < n.next
    omega
 ·exact h
theorem Ai {n:Nd} (h:dG n=true) {f:Int} (hf:dB n f=true):∃hi:gF n.seen f < n.seen.length,n.seen[gF n.seen f].f=f:=by
 obtain⟨g1,_,g3,_,_,_⟩:=bq h;rw [pW g1,Bool.and_eq_true,decide_eq_true_eq] at g3;have hm:f∈n.seen.map (·.f):=by rw [g3.1,wm];exact(qR g1 f).1 hf
 obtain⟨s,hs,rfl⟩:=List.mem_map.1 hm;have hx:gF n.seen s.f < n.seen.length:=List.findIdx_lt_length_of_exists ⟨s,hs,by simp⟩;exact⟨hx,of_decide_eq_true (List.findIdx_getElem (p:=fun t:Sn=>decide (t.f=s.f)) (w:=hx))⟩
theorem vW {n:Nd} (h:dG n=true):∀s∈n.seen,qz s=true:=by
 obtain⟨g1,_,g3,_,_,_⟩:=bq h;rw [pW g1,Bool.and_eq_true] at g3;exact List.all_eq_true.1 g3.2
theorem oC {s:Sn} (h:qz s=true):1≤s.l∧s.l≤1000000000∧s.ids.length≤40∧(∀x∈s.ids,s.l≤x∧x≤1000000000)∧s.ids.Pairwise (· < ·):=by
 unfold qz at h;simp only[Bool.and_eq_true,decide_eq_true_eq] at h;have h1:1≤s.l∧s.l≤1000000000:=by simpa [eD] using h.1.1
 have h2:=(oN (p:=wH s.l) (r:=gJ) kH).1 h.2;exact⟨h1.1,h1.2,h.1.2,fun x hx=>by simpa [wH] using h2.1 x hx,h2.2.imp (fun h=>by simpa [gJ] using h)⟩
theorem Tp {s:Sn} (h1:1≤s.l) (h2:s.l≤1000000000) (h3:s.ids.length≤40) (h4:∀x∈s.ids,s.l≤x∧x≤1000000000) (h5:s.ids.Pairwise (· < ·)):qz s=true:=by
 unfold qz;rw [(oN (p:=wH s.l) (r:=gJ) kH).2 ⟨fun x hx=>by simpa [wH] using h4 x hx,h5.imp (fun h=>by simpa [gJ] using h)⟩];simp[eD,h1,h2,h3]
theorem vQ {n:Nd} {i:Nat} (hi:i < n.seen.length) {s:Sn} (h:dG n=true) (hf:s.f=n.seen[i].f) (hs:qz s=true):dG (bY n (n.seen.set i s))=true:=by
 obtain⟨g1,g2,g3,g4,g5,g6⟩:=bq h;refine vP g1 g2 ?_ g4 g5 g6;have g1':bQ (bY n (n.seen.set i s))=true:=g1;rw [pW g1',Bool.and_eq_true,decide_eq_true_eq];rw [pW g1,Bool.and_eq_true,decide_eq_true_eq] at g3;refine⟨?_,?_⟩
 ·show(n.seen.set i s).map (·.f)=Dt (iM n)
  rw [←g3.1,List.map_set,hf];apply List.ext_getElem?
  intro j;rw [List.getElem?_set];split
  ·rename_i e
   subst e;simp[hi]
  ·rfl
 ·show(n.seen.set i s).all qz=true
  rw [List.all_eq_true];intro x hx;rcases List.mem_or_eq_of_mem_set hx with hx|rfl
  ·exact List.all_eq_true.1 g3.2 x hx
  ·exact hs
theorem Mj {s:Sn} {low:Int} (h:qz s=true) (h1:low≤1000000000):1≤dU s low∧dU s low≤1000000000∧s.l≤dU s low∧low≤dU s low:=by
 have:=oC h;unfold dU;split<;>omega
theorem Em {s:Sn} {low:Int} (h:qz s=true) (h1:low≤1000000000):qz ⟨s.f,dU s low,aW s low⟩=true:=by
 have hl:=Mj h h1;obtain⟨a1,a2,a3,a4,a5⟩:=oC h;refine Tp hl.1 hl.2.1 ?_ ?_ ?_
 ·exact Nat.le_trans (List.length_filter_le _ _) a3
 ·intro x hx;have:=List.mem_filter.1 hx;exact⟨by simpa using this.2,(a4 x this.1).2⟩
 ·exact a5.sublist List.filter_sublist
theorem Fj (x:Int):∀(l:List Int),∀y∈l.takeWhile (fun y=>decide (y < x)),y < x:=by
 intro l;induction l with
 |nil=>intro y hy;simp at hy
 |cons z l ih=>
  intro y hy
  by_cases hz:z < x
  ·rw [List.takeWhile_cons_of_pos (by simpa using hz)] at hy;rcases List.mem_cons.1 hy with rfl|hy
   ·exact hz
   ·exact ih y hy
  ·rw [List.takeWhile_cons_of_neg (by simpa using hz)] at hy;cases hy
theorem uU (x:Int):∀(l:List Int),l.Pairwise (· < ·)→∀y∈l.dropWhile (fun y=>decide (y < x)),x≤y:=by
 intro l;induction l with
 |nil=>intro _ y hy;simp at hy
 |cons z l ih=>
  intro hp y hy
  by_cases hz:z < x
  ·rw [List.dropWhile_cons_of_pos (by simpa using hz)] at hy;exact ih (List.pairwise_cons.1 hp).2 y hy
  ·rw [List.dropWhile_cons_of_neg (by simpa using hz)] at hy;rcases List.mem_cons.1 hy with rfl|hy
   ·omega
   ·have:=(List.pairwise_cons.1 hp).1 y hy;omega
theorem xR (l:List Int) (x:Int):(jG l x).length=l.length+1:=by
 unfold jG;have:=congrArg List.length (List.takeWhile_append_dropWhile (p:=fun y=>decide (y < x)) (l:=l));rw [List.length_append] at this;rw [List.length_append,List.length_cons];omega
theorem Hy {l:List Int} {x y:Int}:y∈jG l x↔y=x∨y∈l:=by
 unfold jG;have e:=List.takeWhile_append_dropWhile (p:=fun y=>decide (y < x)) (l:=l);constructor
 ·intro h;rcases List.mem_append.1 h with h|h
  ·exact .inr ((List.takeWhile_sublist _).mem h)
  ·rcases List.mem_cons.1 h with h|h
   ·exact .inl h
   ·exact .inr ((List.dropWhile_sublist _).mem h)
 ·rintro(rfl|h)
  ·simp
  ·rw [←e] at h;rcases List.mem_append.1 h with h|h
   ·exact List.mem_append.2 (.inl h)
   ·exact List.mem_append.2 (.inr (List.mem_cons_of_mem _ h))
theorem Hw {l:List Int} {x:Int} (hp:l.Pairwise (· < ·)) (hx:x∉l):(jG l x).Pairwise (· < ·):=by
 unfold jG;rw [List.pairwise_append,List.pairwise_cons];refine⟨hp.sublist (List.takeWhile_sublist _),⟨fun y hy=>?_,hp.sublist (List.dropWhile_sublist _)⟩,fun y hy z hz=>?_⟩
 ·have h1:=uU x l hp y hy;have h2:y≠x:=fun e=>hx (e▸(List.dropWhile_sublist _).mem hy)
  omega
 ·have h1:=Fj x l y hy;rcases List.mem_cons.1 hz with rfl|hz
  ·exact h1
  ·have h2:=uU x l hp z hz;omega
theorem Md {s:Sn} {low i:Int} (h:nU s low i=false):dU s low≤i∧i∉aW s low:=by
 unfold nU at h;rw [Bool.or_eq_false_iff] at h;refine⟨by simpa using h.1,fun hm=>?_⟩;rw [(uW _ _).2 hm] at h;cases h.2
theorem yQ {l:List Sn} {i:Nat} (hi:i < l.length):l.getD i default=l[i]:=by rw [List.getD_eq_getElem?_getD,List.getElem?_eq_getElem hi];rfl
theorem Ou {n:Nd} {m:Mg} (h:dG n=true) (hd:dB n m.F=true) (hL:m.L≤1000000000) (hI:m.I≤1000000000):dG (takeN n m).1=true:=by
 obtain⟨hi,hf⟩:=Ai h hd;have hs:=vW h _ (List.getElem_mem hi);unfold takeN;rw [yQ hi];split
 ·exact Zv
 ·split
  ·rename_i h1 h2
   have h1':nU n.seen[gF n.seen m.F] m.L m.I=false:=by simpa using h1
   obtain⟨b1,b2⟩:=Md h1';have ho:=oC (Em hs hL);have hl:=Mj hs hL;unfold jN at h2;simp only[Bool.and_eq_true,decide_eq_true_eq] at h2;have Z0:=pO (l:=(bV n.pu m.k 0 1 0 m.N).1) h (nR (bq h).2.1);refine vQ (n:=setPu n (bV n.pu m.k 0 1 0 m.N).1) hi Z0 hf.symm ?_;refine Tp hl.1 hl.2.1 ?_ ?_ ?_
   ·show(jG (aW n.seen[gF n.seen m.F] m.L) m.I).length≤40
    rw [xR];omega
   ·intro x hx;rcases Hy.1 hx with rfl|hx
    ·exact⟨b1,hI⟩
    ·exact ho.2.2.2.1 x hx
   ·exact Hw ho.2.2.2.2 b2
  ·exact Zv
theorem Il {n:Nd} {p:jm→Bool} (h:dG n=true):dG (setOut n (n.out.filter p))=true:=by
 obtain⟨g1,g2,g3,g4,g5,g6⟩:=bq h;obtain⟨o1,o2,o3⟩:=og g5;refine vP g1 g2 g3 g4 ?_ g6;unfold nZ;have e:(setOut n (n.out.filter p)).out=n.out.filter p:=rfl;rw [e,Eb (f:=fun r:jm=>r.i)]
 ·simp only[Bool.and_true,decide_eq_true_eq];exact Nat.le_trans (List.length_filter_le _ _) o2
 ·intro s hs;exact o3 s (List.mem_filter.1 hs).1
 ·exact o1.sublist List.filter_sublist
theorem zW {m:Mg} (h:bJ m=true) (hK:m.K=1):1≤m.I∧m.I≤1000000000∧1≤m.L∧m.L≤1000000000∧keyOk m.k.data.toList=true∧1≤m.N∧m.N≤1000000000:=by
 unfold bJ at h;simp[hK,eD] at h;refine⟨?_,?_,?_,?_,?_,?_,?_⟩<;>first|omega|simp_all
theorem Dg {m:Mg} (h:bJ m=true) (hK:m.K=0):keyOk m.k.data.toList=true∧1≤m.N∧m.N≤1000000000:=by
 unfold bJ at h;simp[hK,eD] at h;refine⟨?_,?_,?_⟩<;>first|omega|simp_all
theorem Df {m:Mg} (h:bJ m=true):m.K=0∨m.K=1∨m.K=2:=by
 unfold bJ at h;by_cases h0:m.K=0
 ·exact .inl h0
 ·by_cases h1:m.K=1
  ·exact .inr (.inl h1)
  ·by_cases h2:m.K=2
   ·exact .inr (.inr h2)
   ·exfalso
    simp[h0,h1,h2] at h
theorem Oo {n:Nd} {m:Mg} (h:dG n=true) (hm:bJ m=true) (hd:dB n m.F=true):dG (eF n m).1=true:=by
 unfold eF;split
 ·rename_i hK
  have hp:=zW hm hK;exact Ou h hd hp.2.2.2.1 hp.2.1
 ·split
  ·exact Il h
  ·split
   ·rename_i h1 h2 _
    have hK:m.K=0:=by rcases Df hm with h|h|h<;>omega
    have hp:=Dg hm hK;exact Dh h hd hp.1 hp.2.2
   ·exact h
theorem SI {n:Nd} (h:dG n=true) (hp:¬n.par= -1):dB n n.par=true:=by
 have:=(kJ (bq h).1).2.2;unfold dB;rw [decide_eq_true (show 0≤n.par by omega)];simp
theorem Ir {o:jE} (h:bX o=true) (hK:o.K=0∨o.K=3∨o.K=4):keyOk o.k.data.toList=true∧1≤o.n∧o.n≤1000000000:=by
 unfold bX at h;rw [if_pos hK] at h;simp only[Bool.and_eq_true] at h;have:=h.1.1.2;unfold eD at this;have:=of_decide_eq_true this;exact⟨h.1.1.1,this.1,this.2⟩
theorem zZ {o:jE} (h:bX o=true) (hK:o.K=1):keyOk o.k.data.toList=true∧1≤o.n∧o.n≤1000000000∧1≤o.no∧o.no≤1000000000:=by
 unfold bX at h;rw [if_neg (by omega),if_pos hK] at h;simp only[Bool.and_eq_true] at h;have h1:=h.1.1.2;have h2:=h.1.2;unfold eD at h1 h2;have h1:=of_decide_eq_true h1;have h2:=of_decide_eq_true h2;exact⟨h.1.1.1,h1.1,h1.2,h2.1,h2.2⟩
theorem EC {o:jE} (h:bX o=true) (hK:o.K=2):1≤o.no∧o.no≤1000000000:=by
 unfold bX at h;rw [if_neg (by omega),if_neg (by omega),if_pos hK] at h;simp only[Bool.and_eq_true] at h;have h2:=h.1.2;unfold eD at h2;exact of_decide_eq_true h2
theorem Di {o:jE} (h:bX o=true) (hK:o.K=6):bJ o.m=true:=by
 unfold bX at h;rw [if_neg (by omega),if_neg (by omega),if_neg (by omega),if_neg (by omega),if_pos hK] at h;simp only[Bool.and_eq_true] at h;exact h.2
theorem Dj {o:jE} (h:bX o=true):o.K=0∨o.K=1∨o.K=2∨o.K=3∨o.K=4∨o.K=5∨o.K=6:=by
 unfold bX at h;split at h
 ·omega
 ·split at h
  ·omega
  ·split at h
   ·omega
   ·split at h
    ·omega
    ·split at h
     ·omega
     ·cases h
theorem zh {n:Nd} {o:jE} (h:sH n o=true) (hK:o.K=6):o.m.T=n.id∧dB n o.m.F=true:=by
 unfold sH at h;simpa [hK] using h
theorem SH {n:Nd} {o:jE} (h:dG n=true) (ho:bX o=true) (ha:sH n o=true):dG (dW n o).1=true:=by
 unfold dW;split
 ·split
  ·exact pO h (nR (bq h).2.1)
  ·exact h
 ·split
  ·rename_i hK
   have hp:=zZ ho hK;exact Kv h hp.2.2.2.2 hp.1 (by unfold eD;simp only[decide_eq_true_eq];omega)
  ·split
   ·exact EB h
   ·split
    ·split
     ·exact h
     ·exact h
    ·split
     ·split
      ·exact h
      ·rename_i hK hpar
       have hp:=Ir ho (by omega);exact Dh h (SI h hpar) hp.1 hp.2.2
     ·split
      ·exact h
      ·have hK:o.K=6:=by rcases Dj ho with h|h|h|h|h|h|h<;>omega
       exact Oo h (Di ho hK) (zh ha hK).2
theorem SK {n:Nd} {o:jE} (h:dG n=true):dG (kR n o).1=true:=by
 unfold kR;split
 ·rename_i hc
  rw [Bool.and_eq_true] at hc;exact SH h hc.1 hc.2
 ·exact h
theorem VO {n:Nd} {o:jE} (h:dG n=true):dG (Pn n o).1=true:=by rw [JW h];exact SK h
end Mth
end Go.Proofs.YtacgbldlonoaaaaGreatDoor
