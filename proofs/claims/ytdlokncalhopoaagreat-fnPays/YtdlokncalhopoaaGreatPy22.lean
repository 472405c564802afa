/- Parts. -/
import Derived.Test.YtdlokncalhopoaaGreatPy21
import Derived.Test.YtdlokncalhopoaaGreatPy15
import Derived.Test.YtdlokncalhopoaaGreatPy17
namespace Go.Proofs.YtdlokncalhopoaaGreat
open Go.RowKit
open Mth
namespace Mth
theorem ndOk_of {n:Nd} (h1:placeB n=true) (h2:psOk n.pu=true) (h3:toldB n=true) (h4:smB n.next=true) (h5:outsB n=true) (h6:reqsB n=true):ndOk n=true:=by
 unfold ndOk
 rw [h1,h2,h3,h4,h5,h6]
 rfl
theorem addP_psOk {l:List Pu} {key:ByteArray} {dm df ds n:Int} (h:psOk l=true):psOk (addP l key dm df ds n).1=true:=by
 unfold addP withP
 split
 ·rename_i hc
  simp only[Bool.and_eq_true] at hc
  exact hc.2
 ·exact h
theorem ndOk_setPu {n:Nd} {l:List Pu} (h:ndOk n=true) (hl:psOk l=true):ndOk (setPu n l)=true:=by
 obtain⟨h1,_,h3,h4,h5,h6⟩:=ndOk_parts h
 exact ndOk_of h1 hl h3 h4 h5 h6
theorem chk_asc {α:Type} {p:α→Bool} {f:α→Int} {l:List α} (h1:∀x∈l,p x=true) (h2:l.Pairwise (fun s t=>f s < f t)):chk p (fun s t=>ltB (f s) (f t)) l=true:=
 (chk_iff (p:=p) (r:=fun s t=>ltB (f s) (f t)) (fun a b c h1 h2=>ltB_trans _ _ _ h1 h2)).2 ⟨h1,h2.imp (fun h=>by simpa [ltB] using h)⟩
theorem reqs_of {n:Nd} (h1:0≤n.old) (h2:n.old≤1000000000) (h3:n.reqs.length≤30) (h4:n.reqs.Pairwise (fun s t=>s.no < t.no)) (h5:∀q∈n.reqs,reqB n q=true):reqsB n=true:=by
 unfold reqsB
 rw [chk_asc (f:=fun r:Rq=>r.no) h5 h4]
 simp[amB,h1,h2,h3]
theorem reqB_of {n:Nd} {q:Rq} (h1:n.old < q.no) (h2:q.no≤1000000000) (h3:keyOk q.k.data.toList=true) (h4:smB q.n=true) (h5:0≤q.s) (h6:q.s≤2):reqB n q=true:=by
 unfold reqB
 rw [h3,h4]
 simp only[Bool.and_true,Bool.and_eq_true,decide_eq_true_eq]
 omega
theorem insQ_length (l:List Rq) (q:Rq):(insQ l q).length=l.length+1:=by
 have:=reqI_le l q.no
 unfold insQ
 simp
 omega
theorem insQ_mem {l:List Rq} {q r:Rq} (h:r∈insQ l q):r=q∨r∈l:=by
 unfold insQ at h
 rcases List.mem_append.1 h with h|h
 ·exact .inr (List.mem_of_mem_take h)
 ·rcases List.mem_cons.1 h with h|h
  ·exact .inl h
  ·exact .inr (List.mem_of_mem_drop h)
theorem insQ_asc {l:List Rq} {q:Rq} (hp:l.Pairwise (fun s t=>s.no < t.no)) (hf:reqF l q.no=false):(insQ l q).Pairwise (fun s t=>s.no < t.no):=by
 have hlt:∀i (hi:i < l.length),reqI l q.no≤i→q.no < l[i].no:=fun i hi hle=>by
  have h1:=reqI_above (no:=q.no) hp i hi hle
  rcases Int.lt_or_eq_of_le h1 with h|h
  ·exact h
  ·have:=(reqF_mem hp hi h.symm).2
   rw [hf] at this
   cases this
 unfold insQ
 rw [List.pairwise_append,List.pairwise_cons]
 refine⟨hp.sublist (List.take_sublist _ _),⟨fun r hr=>?_,hp.sublist (List.drop_sublist _ _)⟩,fun r hr s hs=>?_⟩
 ·obtain⟨i,hi,rfl⟩:=List.mem_iff_getElem.1 hr
  rw [List.getElem_drop]
  exact hlt _ _ (by omega)
 ·obtain⟨i,hi,rfl⟩:=List.mem_iff_getElem.1 hr
  rw [List.getElem_take]
  have hi':i < reqI l q.no:=by simp at hi;omega
  have hil:i < l.length:=by have:=reqI_le l q.no;omega
  have h1:=reqI_below l q.no i hil hi'
  rcases List.mem_cons.1 hs with rfl|hs
  ·exact h1
  ·obtain⟨j,hj,rfl⟩:=List.mem_iff_getElem.1 hs
   rw [List.getElem_drop]
   have:=hlt (reqI l q.no+j) (by simp at hj;omega) (by omega)
   omega
theorem ndOk_setReqs {n:Nd} {l:List Rq} {x:Int} (h:ndOk n=true) (h1:0≤x) (h2:x≤1000000000) (h3:l.length≤30) (h4:l.Pairwise (fun s t=>s.no < t.no)) (h5:∀q∈l,reqB (setOld n x) q=true):ndOk (setReqs (setOld n x) l)=true:=by
 obtain⟨g1,g2,g3,g4,g5,_⟩:=ndOk_parts h
 exact ndOk_of g1 g2 g3 g4 g5 (reqs_of h1 h2 h3 h4 h5)
theorem ndOk_keep {n:Nd} {q:Rq} (h:ndOk n=true) (hf:reqF n.reqs q.no=false) (h1:n.old < q.no) (h2:q.no≤1000000000) (h3:keyOk q.k.data.toList=true) (h4:smB q.n=true) (h5:0≤q.s) (h6:q.s≤2):ndOk (keepN n q)=true:=by
 obtain⟨_,_,_,_,_,g6⟩:=ndOk_parts h
 obtain⟨a1,a2,a3,a4,a5⟩:=reqs_asc g6
 have hasc:=insQ_asc a1 hf
 have hlen:=insQ_length n.reqs q
 have hall:∀r∈insQ n.reqs q,reqB n r=true:=fun r hr=>by
  rcases insQ_mem hr with rfl|hr
  ·exact reqB_of h1 h2 h3 h4 h5 h6
  ·exact a3 r hr
 unfold keepN
 split
 ·cases hc:insQ n.reqs q with
  |nil=>rw [hc] at hlen;simp at hlen
  |cons r l=>
   rw [hc] at hasc hall hlen
   have hp:=List.pairwise_cons.1 hasc
   have hr:=reqB_parts (hall r (by simp))
   simp only[List.headD_cons,List.tail_cons]
   refine ndOk_setReqs h (by omega) hr.2.1 (by simp at hlen;omega) hp.2 (fun s hs=>?_)
   have b:=reqB_parts (hall s (by simp[hs]))
   exact reqB_of (hp.1 s hs) b.2.1 b.2.2.1 b.2.2.2.1 b.2.2.2.2.1 b.2.2.2.2.2
 ·rename_i hc
  have e:setReqs n (insQ n.reqs q)=setReqs (setOld n n.old) (insQ n.reqs q):=rfl
  rw [e]
  exact ndOk_setReqs h a4 a5 (by omega) hasc hall
theorem ndOk_admit {n:Nd} {no:Int} {key:ByteArray} {a:Int} (h:ndOk n=true) (h2:no≤1000000000) (h3:keyOk key.data.toList=true) (h4:smB a=true):ndOk (admitN n no key a).1=true:=by
 unfold admitN
 split
 ·exact h
 ·split
  ·exact h
  ·rename_i hs hf
   have hpu:=ndOk_setPu (l:=(addP n.pu key 0 (-1) 1 a).1) h (addP_psOk (ndOk_parts h).2.1)
   refine ndOk_keep hpu ?_ ?_ h2 h3 h4 ?_ ?_
   ·show reqF n.reqs no=false
    simpa using hf
   ·show n.old < no
    omega
   ·dsimp only;split<;>omega
   ·dsimp only;split<;>omega
theorem getD_mem {l:List Rq} {i:Nat} (hi:i < l.length):l.getD i default=l[i]:=by rw [List.getD_eq_getElem?_getD,List.getElem?_eq_getElem hi];rfl
theorem ndOk_release {n:Nd} {no:Int} (h:ndOk n=true):ndOk (releaseN n no).1=true:=by
 unfold releaseN
 split
 ·exact h
 ·split
  ·exact h
  ·split
   ·exact h
   ·split
    ·exact h
    ·split
     ·rename_i hf _ _ hp
      obtain⟨hi,hno⟩:=(reqF_iff n.reqs no).1 (by simpa using hf)
      have hpu:=ndOk_setPu (l:=(addP n.pu (n.reqs.getD (reqI n.reqs no) default).k 0 1 (-1) (n.reqs.getD (reqI n.reqs no) default).n).1) h (addP_psOk (ndOk_parts h).2.1)
      obtain⟨_,_,_,_,_,g6⟩:=ndOk_parts h
      obtain⟨a1,a2,a3,a4,a5⟩:=reqs_asc g6
      rw [getD_mem hi] at hpu ⊢
      have hb:=reqB_parts (a3 _ (List.getElem_mem hi))
      have e:∀l,setReqs (setPu n l) (n.reqs.set (reqI n.reqs no) (relQ n.reqs[reqI n.reqs no]))=setReqs (setOld (setPu n l) (setPu n l).old) (n.reqs.set (reqI n.reqs no) (relQ n.reqs[reqI n.reqs no])):=fun _=>rfl
      rw [e]
      refine ndOk_setReqs hpu a4 a5 (by simpa using a2) ?_ ?_
      ·rw [List.pairwise_iff_getElem] at a1 ⊢
       intro i j hi' hj' hij
       have e2:∀k (hk:k < (n.reqs.set (reqI n.reqs no) (relQ n.reqs[reqI n.reqs no])).length),((n.reqs.set (reqI n.reqs no) (relQ n.reqs[reqI n.reqs no]))[k]).no=(n.reqs[k]'(by simpa using hk)).no:=fun k hk=>by
        rw [List.getElem_set]
        split
        ·rename_i he;subst he;rfl
        ·rfl
       rw [e2 i hi',e2 j hj']
       exact a1 i j (by simpa using hi') (by simpa using hj') hij
      ·intro q hq
       rcases List.mem_or_eq_of_mem_set hq with hq|rfl
       ·exact a3 q hq
       ·exact reqB_of (show n.old < _ by have:=hb.1;simp only[relQ];omega) hb.2.1 hb.2.2.1 hb.2.2.2.1 (by simp[relQ]) (by simp[relQ])
     ·exact h
theorem ndOk_give {n:Nd} {dst:Int} {key:ByteArray} {a:Int} (h:ndOk n=true) (hd:nearB n dst=true) (hk:keyOk key.data.toList=true) (ha:a≤1000000000):ndOk (giveN n dst key a).1=true:=by
 unfold giveN
 split
 ·rename_i hp
  obtain⟨g1,g2,g3,g4,g5,g6⟩:=ndOk_parts h
  obtain⟨o1,o2,o3⟩:=outs_asc g5
  unfold payB at hp
  have hp:=of_decide_eq_true hp
  have hn:1≤n.next∧n.next≤1000000000:=by simpa [smB] using g4
  have hle:amtP n key a≤1000000000:=by unfold amtP;split<;>omega
  refine ndOk_of g1 (addP_psOk g2) g3 ?_ ?_ g6
  ·show smB (n.next+1)=true
   unfold smB
   simp only[decide_eq_true_eq]
   omega
  ·unfold outsB
   have e:(paidN n dst key (amtP n key a)).out=n.out++[⟨n.next,dst,key,amtP n key a⟩]:=rfl
   rw [e]
   rw [chk_asc (f:=fun r:Snt=>r.i)]
   ·simp;omega
   ·intro s hs
    have eB:∀s,outB (paidN n dst key (amtP n key a)) s=(decide (1≤s.i∧s.i≤n.next+1 - 1)&&nearB n s.t&&keyOk s.k.data.toList&&smB s.n):=fun _=>rfl
    rw [eB]
    rcases List.mem_append.1 hs with hs|hs
    ·have:=o3 s hs
     unfold outB at this
     simp only[Bool.and_eq_true,decide_eq_true_eq] at this ⊢
     exact⟨⟨⟨by omega,this.1.1.2⟩,this.1.2⟩,this.2⟩
    ·obtain rfl:s=⟨n.next,dst,key,amtP n key a⟩:=by simpa using hs
     simp only[Bool.and_eq_true,decide_eq_true_eq]
     refine⟨⟨⟨by omega,hd⟩,hk⟩,?_⟩
     unfold smB
     simp only[decide_eq_true_eq]
     omega
   ·rw [List.pairwise_append]
    refine⟨o1,by simp,fun s hs t ht=>?_⟩
    obtain rfl:t=⟨n.next,dst,key,amtP n key a⟩:=by simpa using ht
    have:=o3 s hs
    unfold outB at this
    simp only[Bool.and_eq_true,decide_eq_true_eq] at this
    show s.i < n.next
    omega
 ·exact h
theorem seenI_lt {n:Nd} (h:ndOk n=true) {f:Int} (hf:nearB n f=true):∃hi:seenI n.seen f < n.seen.length,n.seen[seenI n.seen f].f=f:=by
 obtain⟨g1,_,g3,_,_,_⟩:=ndOk_parts h
 rw [told_eq g1,Bool.and_eq_true,decide_eq_true_eq] at g3
 have hm:f∈n.seen.map (·.f):=by rw [g3.1,srt_mem];exact(near_iff g1 f).1 hf
 obtain⟨s,hs,rfl⟩:=List.mem_map.1 hm
 have hx:seenI n.seen s.f < n.seen.length:=List.findIdx_lt_length_of_exists ⟨s,hs,by simp⟩
 exact⟨hx,of_decide_eq_true (List.findIdx_getElem (p:=fun t:Sn=>decide (t.f=s.f)) (w:=hx))⟩
theorem seen_mem {n:Nd} (h:ndOk n=true):∀s∈n.seen,snB s=true:=by
 obtain⟨g1,_,g3,_,_,_⟩:=ndOk_parts h
 rw [told_eq g1,Bool.and_eq_true] at g3
 exact List.all_eq_true.1 g3.2
theorem snB_parts {s:Sn} (h:snB s=true):1≤s.l∧s.l≤1000000000∧s.ids.length≤40∧(∀x∈s.ids,s.l≤x∧x≤1000000000)∧s.ids.Pairwise (· < ·):=by
 unfold snB at h
 simp only[Bool.and_eq_true,decide_eq_true_eq] at h
 have h1:1≤s.l∧s.l≤1000000000:=by simpa [smB] using h.1.1
 have h2:=(chk_iff (p:=idB s.l) (r:=ltB) ltB_trans).1 h.2
 exact⟨h1.1,h1.2,h.1.2,fun x hx=>by simpa [idB] using h2.1 x hx,h2.2.imp (fun h=>by simpa [ltB] using h)⟩
theorem snB_of {s:Sn} (h1:1≤s.l) (h2:s.l≤1000000000) (h3:s.ids.length≤40) (h4:∀x∈s.ids,s.l≤x∧x≤1000000000) (h5:s.ids.Pairwise (· < ·)):snB s=true:=by
 unfold snB
 rw [(chk_iff (p:=idB s.l) (r:=ltB) ltB_trans).2 ⟨fun x hx=>by simpa [idB] using h4 x hx,h5.imp (fun h=>by simpa [ltB] using h)⟩]
 simp[smB,h1,h2,h3]
theorem ndOk_setSeen {n:Nd} {i:Nat} (hi:i < n.seen.length) {s:Sn} (h:ndOk n=true) (hf:s.f=n.seen[i].f) (hs:snB s=true):ndOk (setSeen n (n.seen.set i s))=true:=by
 obtain⟨g1,g2,g3,g4,g5,g6⟩:=ndOk_parts h
 refine ndOk_of g1 g2 ?_ g4 g5 g6
 have g1':placeB (setSeen n (n.seen.set i s))=true:=g1
 rw [told_eq g1',Bool.and_eq_true,decide_eq_true_eq]
 rw [told_eq g1,Bool.and_eq_true,decide_eq_true_eq] at g3
 refine⟨?_,?_⟩
 ·show(n.seen.set i s).map (·.f)=srt (nbrs n)
  rw [←g3.1,List.map_set,hf]
  apply List.ext_getElem?
  intro j
  rw [List.getElem?_set]
  split
  ·rename_i e
   subst e
   simp[hi]
  ·rfl
 ·show(n.seen.set i s).all snB=true
  rw [List.all_eq_true]
  intro x hx
  rcases List.mem_or_eq_of_mem_set hx with hx|rfl
  ·exact List.all_eq_true.1 g3.2 x hx
  ·exact hs
theorem lowS_in {s:Sn} {low:Int} (h:snB s=true) (h1:low≤1000000000):1≤lowS s low∧lowS s low≤1000000000∧s.l≤lowS s low∧low≤lowS s low:=by
 have:=snB_parts h
 unfold lowS
 split<;>omega
theorem idsS_ok {s:Sn} {low:Int} (h:snB s=true) (h1:low≤1000000000):snB ⟨s.f,lowS s low,idsS s low⟩=true:=by
 have hl:=lowS_in h h1
 obtain⟨a1,a2,a3,a4,a5⟩:=snB_parts h
 refine snB_of hl.1 hl.2.1 ?_ ?_ ?_
 ·exact Nat.le_trans (List.length_filter_le _ _) a3
 ·intro x hx
  have:=List.mem_filter.1 hx
  exact⟨by simpa using this.2,(a4 x this.1).2⟩
 ·exact a5.sublist List.filter_sublist
theorem takeWhile_lt (x:Int):∀(l:List Int),∀y∈l.takeWhile (fun y=>decide (y < x)),y < x:=by
 intro l
 induction l with
 |nil=>intro y hy;simp at hy
 |cons z l ih=>
  intro y hy
  by_cases hz:z < x
  ·rw [List.takeWhile_cons_of_pos (by simpa using hz)] at hy
   rcases List.mem_cons.1 hy with rfl|hy
   ·exact hz
   ·exact ih y hy
  ·rw [List.takeWhile_cons_of_neg (by simpa using hz)] at hy
   cases hy
theorem dropWhile_le (x:Int):∀(l:List Int),l.Pairwise (· < ·)→∀y∈l.dropWhile (fun y=>decide (y < x)),x≤y:=by
 intro l
 induction l with
 |nil=>intro _ y hy;simp at hy
 |cons z l ih=>
  intro hp y hy
  by_cases hz:z < x
  ·rw [List.dropWhile_cons_of_pos (by simpa using hz)] at hy
   exact ih (List.pairwise_cons.1 hp).2 y hy
  ·rw [List.dropWhile_cons_of_neg (by simpa using hz)] at hy
   rcases List.mem_cons.1 hy with rfl|hy
   ·omega
   ·have:=(List.pairwise_cons.1 hp).1 y hy
    omega
theorem insI_length (l:List Int) (x:Int):(insI l x).length=l.length+1:=by
 unfold insI
 have:=congrArg List.length (List.takeWhile_append_dropWhile (p:=fun y=>decide (y < x)) (l:=l))
 rw [List.length_append] at this
 rw [List.length_append,List.length_cons]
 omega
theorem insI_mem {l:List Int} {x y:Int}:y∈insI l x↔y=x∨y∈l:=by
 unfold insI
 have e:=List.takeWhile_append_dropWhile (p:=fun y=>decide (y < x)) (l:=l)
 constructor
 ·intro h
  rcases List.mem_append.1 h with h|h
  ·exact .inr ((List.takeWhile_sublist _).mem h)
  ·rcases List.mem_cons.1 h with h|h
   ·exact .inl h
   ·exact .inr ((List.dropWhile_sublist _).mem h)
 ·rintro(rfl|h)
  ·simp
  ·rw [←e] at h
   rcases List.mem_append.1 h with h|h
   ·exact List.mem_append.2 (.inl h)
   ·exact List.mem_append.2 (.inr (List.mem_cons_of_mem _ h))
theorem insI_asc {l:List Int} {x:Int} (hp:l.Pairwise (· < ·)) (hx:x∉l):(insI l x).Pairwise (· < ·):=by
 unfold insI
 rw [List.pairwise_append,List.pairwise_cons]
 refine⟨hp.sublist (List.takeWhile_sublist _),⟨fun y hy=>?_,hp.sublist (List.dropWhile_sublist _)⟩,fun y hy z hz=>?_⟩
 ·have h1:=dropWhile_le x l hp y hy
  have h2:y≠x:=fun e=>hx (e▸(List.dropWhile_sublist _).mem hy)
  omega
 ·have h1:=takeWhile_lt x l y hy
  rcases List.mem_cons.1 hz with rfl|hz
  ·exact h1
  ·have h2:=dropWhile_le x l hp z hz
   omega
theorem hasS_no {s:Sn} {low i:Int} (h:hasS s low i=false):lowS s low≤i∧i∉idsS s low:=by
 unfold hasS at h
 rw [Bool.or_eq_false_iff] at h
 refine⟨by simpa using h.1,fun hm=>?_⟩
 rw [(has_iff _ _).2 hm] at h
 cases h.2
theorem sn_getD {l:List Sn} {i:Nat} (hi:i < l.length):l.getD i default=l[i]:=by rw [List.getD_eq_getElem?_getD,List.getElem?_eq_getElem hi];rfl
theorem ndOk_take {n:Nd} {m:Mg} (h:ndOk n=true) (hd:nearB n m.F=true) (hL:m.L≤1000000000) (hI:m.I≤1000000000):ndOk (takeN n m).1=true:=by
 obtain⟨hi,hf⟩:=seenI_lt h hd
 have hs:=seen_mem h _ (List.getElem_mem hi)
 unfold takeN
 rw [sn_getD hi]
 split
 ·refine ndOk_setSeen hi h hf.symm ?_
  have:=idsS_ok hs hL
  rw [hf] at this
  exact this
 ·split
  ·rename_i h1 h2
   have h1':hasS n.seen[seenI n.seen m.F] m.L m.I=false:=by simpa using h1
   obtain⟨b1,b2⟩:=hasS_no h1'
   have ho:=snB_parts (idsS_ok hs hL)
   have hl:=lowS_in hs hL
   unfold gainB at h2
   simp only[Bool.and_eq_true,decide_eq_true_eq] at h2
   have hpu:=ndOk_setPu (l:=(addP n.pu m.k 0 1 0 m.N).1) h (addP_psOk (ndOk_parts h).2.1)
   refine ndOk_setSeen (n:=setPu n (addP n.pu m.k 0 1 0 m.N).1) hi hpu hf.symm ?_
   refine snB_of hl.1 hl.2.1 ?_ ?_ ?_
   ·show(insI (idsS n.seen[seenI n.seen m.F] m.L) m.I).length≤40
    rw [insI_length]
    omega
   ·intro x hx
    rcases insI_mem.1 hx with rfl|hx
    ·exact⟨b1,hI⟩
    ·exact ho.2.2.2.1 x hx
   ·exact insI_asc ho.2.2.2.2 b2
  ·refine ndOk_setSeen hi h hf.symm ?_
   have:=idsS_ok hs hL
   rw [hf] at this
   exact this
theorem ndOk_filter {n:Nd} {p:Snt→Bool} (h:ndOk n=true):ndOk (setOut n (n.out.filter p))=true:=by
 obtain⟨g1,g2,g3,g4,g5,g6⟩:=ndOk_parts h
 obtain⟨o1,o2,o3⟩:=outs_asc g5
 refine ndOk_of g1 g2 g3 g4 ?_ g6
 unfold outsB
 have e:(setOut n (n.out.filter p)).out=n.out.filter p:=rfl
 rw [e,chk_asc (f:=fun r:Snt=>r.i)]
 ·simp only[Bool.and_true,decide_eq_true_eq]
  exact Nat.le_trans (List.length_filter_le _ _) o2
 ·intro s hs
  exact o3 s (List.mem_filter.1 hs).1
 ·exact o1.sublist List.filter_sublist
theorem mgOk_pay {m:Mg} (h:mgOk m=true) (hK:m.K=1):1≤m.I∧m.I≤1000000000∧1≤m.L∧m.L≤1000000000∧keyOk m.k.data.toList=true∧1≤m.N∧m.N≤1000000000:=by
 unfold mgOk at h
 simp[hK,smB] at h
 refine⟨?_,?_,?_,?_,?_,?_,?_⟩<;>first|omega|simp_all
theorem mgOk_want {m:Mg} (h:mgOk m=true) (hK:m.K=0):keyOk m.k.data.toList=true∧1≤m.N∧m.N≤1000000000:=by
 unfold mgOk at h
 simp[hK,smB] at h
 refine⟨?_,?_,?_⟩<;>first|omega|simp_all
theorem mgOk_kind {m:Mg} (h:mgOk m=true):m.K=0∨m.K=1∨m.K=2:=by
 unfold mgOk at h
 by_cases h0:m.K=0
 ·exact .inl h0
 ·by_cases h1:m.K=1
  ·exact .inr (.inl h1)
  ·by_cases h2:m.K=2
   ·exact .inr (.inr h2)
   ·exfalso
    simp[h0,h1,h2] at h
theorem ndOk_hear {n:Nd} {m:Mg} (h:ndOk n=true) (hm:mgOk m=true) (hd:nearB n m.F=true):ndOk (hearN n m).1=true:=by
 unfold hearN
 split
 ·rename_i hK
  have hp:=mgOk_pay hm hK
  exact ndOk_take h hd hp.2.2.2.1 hp.2.1
 ·split
  ·exact ndOk_filter h
  ·split
   ·rename_i h1 h2 _
    have hK:m.K=0:=by rcases mgOk_kind hm with h|h|h<;>omega
    have hp:=mgOk_want hm hK
    exact ndOk_give h hd hp.1 hp.2.2
   ·exact h
theorem ndOk_par {n:Nd} (h:ndOk n=true) (hp:¬n.par= -1):nearB n n.par=true:=by
 have:=(place_kids (ndOk_parts h).1).2.2
 unfold nearB
 rw [decide_eq_true (show 0≤n.par by omega)]
 simp
theorem opOk_key {o:Op5} (h:opOk o=true) (hK:o.K=0∨o.K=3∨o.K=4):keyOk o.k.data.toList=true∧1≤o.n∧o.n≤1000000000:=by
 unfold opOk at h
 rw [if_pos hK] at h
 simp only[Bool.and_eq_true] at h
 have:=h.1.1.2
 unfold smB at this
 have:=of_decide_eq_true this
 exact⟨h.1.1.1,this.1,this.2⟩
theorem opOk_admit {o:Op5} (h:opOk o=true) (hK:o.K=1):keyOk o.k.data.toList=true∧1≤o.n∧o.n≤1000000000∧1≤o.no∧o.no≤1000000000:=by
 unfold opOk at h
 rw [if_neg (by omega),if_pos hK] at h
 simp only[Bool.and_eq_true] at h
 have h1:=h.1.1.2
 have h2:=h.1.2
 unfold smB at h1 h2
 have h1:=of_decide_eq_true h1
 have h2:=of_decide_eq_true h2
 exact⟨h.1.1.1,h1.1,h1.2,h2.1,h2.2⟩
theorem opOk_hear {o:Op5} (h:opOk o=true) (hK:o.K=6):mgOk o.m=true:=by
 unfold opOk at h
 rw [if_neg (by omega),if_neg (by omega),if_neg (by omega),if_neg (by omega),if_pos hK] at h
 simp only[Bool.and_eq_true] at h
 exact h.2
theorem opOk_kind {o:Op5} (h:opOk o=true):o.K=0∨o.K=1∨o.K=2∨o.K=3∨o.K=4∨o.K=5∨o.K=6:=by
 unfold opOk at h
 split at h
 ·omega
 ·split at h
  ·omega
  ·split at h
   ·omega
   ·split at h
    ·omega
    ·split at h
     ·omega
     ·cases h
theorem addrB_hear {n:Nd} {o:Op5} (h:addrB n o=true) (hK:o.K=6):o.m.T=n.id∧nearB n o.m.F=true:=by
 unfold addrB at h
 simpa [hK] using h
theorem ndOk_act {n:Nd} {o:Op5} (h:ndOk n=true) (ho:opOk o=true) (ha:addrB n o=true):ndOk (actN n o).1=true:=by
 unfold actN
 split
 ·split
  ·exact ndOk_setPu h (addP_psOk (ndOk_parts h).2.1)
  ·exact h
 ·split
  ·rename_i hK
   have hp:=opOk_admit ho hK
   exact ndOk_admit h hp.2.2.2.2 hp.1 (by unfold smB;simp only[decide_eq_true_eq];omega)
  ·split
   ·exact ndOk_release h
   ·split
    ·split
     ·exact h
     ·exact h
    ·split
     ·split
      ·exact h
      ·rename_i hK hpar
       have hp:=opOk_key ho (by omega)
       exact ndOk_give h (ndOk_par h hpar) hp.1 hp.2.2
     ·split
      ·exact h
      ·have hK:o.K=6:=by rcases opOk_kind ho with h|h|h|h|h|h|h<;>omega
       exact ndOk_hear h (opOk_hear ho hK) (addrB_hear ha hK).2
theorem ndOk_wdo {n:Nd} {o:Op5} (h:ndOk n=true):ndOk (wdoN n o).1=true:=by
 unfold wdoN
 split
 ·rename_i hc
  rw [Bool.and_eq_true] at hc
  exact ndOk_act h hc.1 hc.2
 ·exact h
theorem ndOk_do {n:Nd} {o:Op5} (h:ndOk n=true):ndOk (doN n o).1=true:=by rw [doN_ok h];exact ndOk_wdo h
end Mth
def setI (I:Nat→Nat) (k gi:Nat):Nat→Nat:=fun i=>if i=k then gi else I i
theorem SeenW.store {w:World} {a:Option Addr} {g:Nat} {I:Nat→Nat} {l:List Sn} (h:SeenW w a g I l) (k:Nat) (hk:k < l.length) (s:Sn) (b:Option Addr) (cc gi:Nat) (hi:GR.W encNum 1 w b gi s.ids) (hg4:∀x∈fpI I l,x≠g) (hgi:∀x∈fp gi s.ids,x≠g):
 SeenW (GR.setW w g (k*3) [.int .i64 s.f,.int .i64 s.l,.slice b s.ids.length cc]) a g (setI I k gi) (l.set k s):=by
 obtain⟨T,hT,hl,hr⟩:=h
 have hkT:k < T.length:=by omega
 have hkp:=setW_keeps (g:=g) [.int .i64 s.f,.int .i64 s.l,.slice b s.ids.length cc] w (k*3)
 refine⟨T.set k ⟨s.f,s.l,.slice b s.ids.length cc⟩,GR.W.set encR3_length hT k ⟨s.f,s.l,.slice b s.ids.length cc⟩ hkT,by simpa using hl,fun i hi'=>?_⟩
 have hil:i < l.length:=by simpa using hi'
 by_cases e:i=k
 ·subst e
  refine⟨b,cc,?_,?_⟩
  ·rw [List.getElem_set_self,List.getElem?_set_self hkT]
  ·rw [List.getElem_set_self]
   unfold setI
   rw [if_pos rfl]
   exact hi.keeps hkp (fun x hx=>by simpa using hgi x hx)
 ·obtain⟨b',c',ht,hi2⟩:=hr i hil
  refine⟨b',c',?_,?_⟩
  ·rw [List.getElem_set_ne (by omega),List.getElem?_set_ne (by omega)]
   exact ht
  ·rw [List.getElem_set_ne (by omega)]
   unfold setI
   rw [if_neg e]
   exact hi2.keeps hkp (fun x hx=>by simpa using hg4 x (fpI_mem hil x hx))
theorem KC.setW {c:Nat→Nat} {k g o:Nat} {w:World} (vs:List Value) (hc:c g=k):KC c k w (GR.setW w g o vs):=KC.keeps (setW_keeps vs w o) (fun x hx=>by have:x=g:=(by simpa using hx);rw [this];exact hc)
theorem flat_rel (z:Int):∀(l:List Rq) (i:Nat) (hi:i < l.length),(GR.flat encRq l).set (i*4+3) (.int .i64 z)=GR.flat encRq (l.set i ⟨l[i].no,l[i].k,l[i].n,z⟩):=by
 intro l
 induction l with
 |nil=>intro i hi;simp at hi
 |cons x r ih=>
  intro i hi
  cases i with
  |zero=>rfl
  |succ i=>
   have hi2:i < r.length:=by simpa using hi
   have h1:=ih i hi2
   show(encRq x++GR.flat encRq r).set ((i+1)*4+3) (.int .i64 z)=encRq x++GR.flat encRq (r.set i ⟨r[i].no,r[i].k,r[i].n,z⟩)
   rw [←h1,List.set_append_right _ _ (by show 4≤_;omega)]
   congr 2
   show(i+1)*4+3 - 4=_
   omega
theorem encSnt_one (s:Snt):∀u∈encSnt s,u.oneCell'=true:=by
 intro u hu
 simp only[encSnt,List.mem_cons,List.not_mem_nil,or_false] at hu
 rcases hu with rfl|rfl|rfl|rfl<;>rfl
theorem fieldFree (k:ByteArray) (m f s:Int) (w:World):(Instr.field 80 (.agg #[.string k,.int .i64 m,.int .i64 f,.int .i64 s]) 2).run Tryz.prog w= .ok (.int .i64 f) w:=by kernel_rfl
theorem infoSnt:(Tryz.prog.info? 40).map (fun i=>(i.zero,i.size,i.bytes))=some (some (.agg #[.int .i64 0,.int .i64 0,.string ByteArray.empty,.int .i64 0]),4,40):=by kernel_rfl
theorem far9 {w:World} {g h i:Nat} {u b0 b1 b2 b3 b4 b5 b6 b7 b8:Value} (hne:g≠h) (e:w.cell? ⟨h,i,none⟩=some u):
 (((((((((w.setCell ⟨g,0,none⟩ b0).setCell ⟨g,1,none⟩ b1).setCell ⟨g,2,none⟩ b2).setCell ⟨g,3,none⟩ b3).setCell ⟨g,4,none⟩ b4).setCell ⟨g,5,none⟩ b5).setCell ⟨g,6,none⟩ b6).setCell ⟨g,7,none⟩ b7).setCell ⟨g,8,none⟩ b8).cell? ⟨h,i,none⟩=some u:=by
 rw [World.cell?_setCell_far _ _ _ _ hne,World.cell?_setCell_far _ _ _ _ hne,World.cell?_setCell_far _ _ _ _ hne,World.cell?_setCell_far _ _ _ _ hne,World.cell?_setCell_far _ _ _ _ hne,World.cell?_setCell_far _ _ _ _ hne,World.cell?_setCell_far _ _ _ _ hne,World.cell?_setCell_far _ _ _ _ hne,World.cell?_setCell_far _ _ _ _ hne]
 exact e
theorem addP_kept {l:List Pu} {key:ByteArray} {dm df ds n:Int} (h:(addP l key dm df ds n).2=false):(addP l key dm df ds n).1=l:=by
 unfold addP withP at *
 split at h
 ·cases h
 ·rename_i hc
  rw [if_neg hc]
theorem takeN_gain {n:Nd} {m:Mg} {i:Nat} {s0:Sn} (hi:i < n.seen.length) (e:seenI n.seen m.F=i) (hs:n.seen[i]=s0) (h:hasS s0 m.L m.I=false) (hg:gainB n s0 m=true):takeN n m=(setSeen (setPu n (addP n.pu m.k 0 1 0 m.N).1) (n.seen.set i ⟨m.F,lowS s0 m.L,insI (idsS s0 m.L) m.I⟩),true):=by
 subst e hs
 unfold takeN
 rw [sn_getD hi,if_neg (by rw [h];simp),if_pos hg]
theorem takeN_has {n:Nd} {m:Mg} {i:Nat} {s0:Sn} (hi:i < n.seen.length) (e:seenI n.seen m.F=i) (hs:n.seen[i]=s0) (h:hasS s0 m.L m.I=true):takeN n m=(setSeen n (n.seen.set i ⟨m.F,lowS s0 m.L,idsS s0 m.L⟩),true):=by
 subst e hs
 unfold takeN
 rw [sn_getD hi,if_pos h]
theorem takeN_no {n:Nd} {m:Mg} {i:Nat} {s0:Sn} (hi:i < n.seen.length) (e:seenI n.seen m.F=i) (hs:n.seen[i]=s0) (h:hasS s0 m.L m.I=false) (hg:gainB n s0 m=false):takeN n m=(setSeen n (n.seen.set i ⟨m.F,lowS s0 m.L,idsS s0 m.L⟩),false):=by
 subst e hs
 unfold takeN
 rw [sn_getD hi,if_neg (by rw [h];simp),if_neg (by rw [hg];simp)]
end Go.Proofs.YtdlokncalhopoaaGreat
