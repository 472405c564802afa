/-
  Sevens, NdGain, NdKept, NdTake.
-/
import Derived.Test.YtppmcficiphgdaaGreatDoorQa13
import Derived.Test.YtppmcficiphgdaaGreatDoorQaZ3
import Derived.Test.YtppmcficiphgdaaGreatDoorQa1
import Derived.Test.YtppmcficiphgdaaGreatDoorQa17
import Derived.Test.YtppmcficiphgdaaGreatDoorQa19
import Derived.Test.YtppmcficiphgdaaGreatDoorQa12
namespace Go.Proofs.YtppmcficiphgdaaGreatDoor
open Go.RowKit
theorem seven_at {w:World} {g:Nat} {a0 a1 a2 a3 a4 a5 a6:Value} {t:TypeId} (h:w.heap[g]?=some (.cells #[a0,a1,a2,a3,a4,a5,a6] t (0,0))):
 (w.cell? ⟨g,0,none⟩=some a0∧w.cell? ⟨g,1,none⟩=some a1∧w.cell? ⟨g,2,none⟩=some a2∧w.cell? ⟨g,3,none⟩=some a3∧w.cell? ⟨g,4,none⟩=some a4∧w.cell? ⟨g,5,none⟩=some a5∧w.cell? ⟨g,6,none⟩=some a6)∧
  (w.frozen? ⟨g,0,none⟩=false∧w.frozen? ⟨g,1,none⟩=false∧w.frozen? ⟨g,2,none⟩=false∧w.frozen? ⟨g,3,none⟩=false∧w.frozen? ⟨g,4,none⟩=false∧w.frozen? ⟨g,5,none⟩=false∧w.frozen? ⟨g,6,none⟩=false):=by
 have hf:∀i,w.frozen? ⟨g,i,none⟩=false:=fun i=>by unfold World.frozen?;rw [h];simp
 exact⟨cells7 h,hf 0,hf 1,hf 2,hf 3,hf 4,hf 5,hf 6⟩
theorem blk_set {w:World} {c:Nat} {cs:Array Value} {t:TypeId} (h:w.heap[c]?=some (.cells cs t (0,0))) (i:Nat) (v:Value):(w.setCell ⟨c,i,none⟩ v).heap[c]?=some (.cells (cs.setIfInBounds i v) t (0,0)):=by
 exact Za71
theorem one_other {w:World} {g g' i:Nat} {v:Value} {o:Option Obj} (h:w.heap[g']?=o) (hne:g'≠g):(w.setCell ⟨g,i,none⟩ v).heap[g']?=o:=by rw [Below.heap_setCell _ _ _ _ hne,h]
theorem bodyPost_at {P:Program} {fn:Func} {Q:Ending→World→Prop} {x:Exit} {act:Act} {W:World} (h:∀W',W'=W→bodyPost P fn Q x act W'):bodyPost P fn Q x act W:=h W rfl
set_option maxHeartbeats 4000000
set_option maxRecDepth 100000
open Go.RowKit Go.Maps
open Mth
structure WSet (w0 w:World) (wb sb mb k:Nat) (n:Nd) (A:Ads) (G:Blks) (c:Nat→Nat) (v:Value) (L:List Mg) (low:Int) (l:List Int):Prop where
 wk:WK w0 w wb n A G c v L
 bk:setBlk w sb mb low
 si:SetIs w mb k l
 cs:c sb=9
 cm:c mb=9
theorem WSet.step {w0 w w':World} {wb sb mb k:Nat} {n:Nd} {A:Ads} {G:Blks} {c:Nat→Nat} {v:Value} {L:List Mg} {low:Int} {l:List Int} (h:WSet w0 w wb sb mb k n A G c v L low l) (hb:Below w.heap.size w w'):WSet w0 w' wb sb mb k n A G c v L low l:=
 ⟨h.wk.step hb,obj_step h.bk hb,h.si.kept (hb.block mb h.si.lt),h.cs,h.cm⟩
theorem WSet.ne {w0 w:World} {wb sb mb k:Nat} {n:Nd} {A:Ads} {G:Blks} {c:Nat→Nat} {v:Value} {L:List Mg} {low:Int} {l:List Int} (h:WSet w0 w wb sb mb k n A G c v L low l):sb≠wb∧mb≠wb:=by
 have h8:=h.wk.cw;refine⟨fun e=>?_,fun e=>?_⟩
 ·have:=h.cs;rw [e,h8] at this;cases this
 ·have:=h.cm;rw [e,h8] at this;cases this
theorem WSet.settled {w0 w x w':World} {wb sb mb k:Nat} {n n':Nd} {A A':Ads} {G G':Blks} {c c':Nat→Nat} {v:Value} {L:List Mg} {low:Int} {l:List Int} (h:WSet w0 w wb sb mb k n A G c v L low l) (hb:Below w.heap.size w x) (hw:WK w0 w' wb n' A' G' c' v L) (hk:∀k o,k≠wb→x.heap[k]?=some o→w'.heap[k]?=some o) (hc:∀k,k < w.heap.size→c' k=c k):WSet w0 w' wb sb mb k n' A' G' c' v L low l:=by
 have h1:=h.step hb;refine⟨hw,hk sb _ h.ne.1 h1.bk,?_,(hc sb (obj_lt h.bk)).trans h.cs,(hc mb h.si.lt).trans h.cm⟩;obtain⟨D,⟨es,clock,hbk,rest⟩,ha⟩:=h1.si;exact⟨D,⟨es,clock,hk mb _ h.ne.2 hbk,rest⟩,ha⟩
theorem WSet.put {w0 w w':World} {wb sb mb k:Nat} {n:Nd} {A:Ads} {G:Blks} {c:Nat→Nat} {v:Value} {L:List Mg} {low x:Int} {l:List Int} (h:WSet w0 w wb sb mb k n A G c v L low l) (hs:SetIs w' mb (k+1) (x::l)) (hk:Keeps mb w w'):WSet w0 w' wb sb mb (k+1) n A G c v L low (x::l):=by
 have hne:=h.si.ne h.bk;have hkc:KC c 9 w w':=⟨hk.os,hk.tape,hk.output,hk.size,fun y hy hc=>hk.block y hy (fun e=>hc (by rw [e];exact h.cm))⟩;exact⟨h.wk.kc hkc (by omega),by unfold setBlk;rw [hk.block sb (obj_lt h.bk) hne];exact h.bk,hs,h.cs,h.cm⟩
theorem lenG {w:World} {mb k:Nat} {l:List Int} (h:SetIs w mb k l) (hl:l.Nodup) (d:Nat) (os:Array Obj) (ty:TypeId):(Builtin.len_ #[252] ty #[.map (some mb)]).run Tryz.prog (Sort.grow (redrawn w d) os)= .ok (.int .i64 l.length) (Sort.grow (redrawn w d) os):=
 (h.kept ((below_regrown w d os).block mb h.lt)).len hl ty
theorem wkGain_full (w0 w:World) (wb sb mb k:Nat) (n:Nd) (A:Ads) (G:Blks) (c:Nat→Nat) (v:Value) (L:List Mg) (m:Mg) (low:Int) (l:List Int) (hnd:l.Nodup) (hf:l.length=40) (h:WSet w0 w wb sb mb k n A G c v L low l):Calls Tryz.prog 198 #[.pointer (some ⟨wb,0,none⟩),mgv m,.pointer (some ⟨sb,0,none⟩)] w fun e w'=>e= .returned (.bool false)∧Below w.heap.size w w':=by
 have hq:((l.length:Int) == 40)=true:=by simp;omega
 have HW:=hide h;obtain⟨mK,mF,mT,mI,mL,mk,mN⟩:=m;skip
 open Sa88 in exact Ya19
theorem wkGain_some (w0 w:World) (wb sb mb k:Nat) (n:Nd) (A:Ads) (G:Blks) (c:Nat→Nat) (v:Value) (L:List Mg) (m:Mg) (low:Int) (l:List Int) (E:Nat→Addr) (hz:NdSz n 1048576) (hk:m.k.size≤1048576) (hi0:0≤m.I) (hi1:m.I≤1000000000) (hkk:k < 1000000) (hnd:l.Nodup) (hf:l.length < 40) (h:WSet w0 w wb sb mb k n A G c v L low l) (he:Errs w0 E):Calls Tryz.prog 198 #[.pointer (some ⟨wb,0,none⟩),mgv m,.pointer (some ⟨sb,0,none⟩)] w fun e w'=>e= .returned (.bool (addP n.pu m.k 0 1 0 m.N).2)∧(∃A' G' c',WSet w0 w' wb sb mb (k+1) (if (addP n.pu m.k 0 1 0 m.N).2=true then setPu n (addP n.pu m.k 0 1 0 m.N).1 else n) A' G' c' v L low (if (addP n.pu m.k 0 1 0 m.N).2=true then m.I::l else l))∧∀j o,j≠wb→j≠mb→w.heap[j]?=some o→w'.heap[j]?=some o:=by
 have hq:((l.length:Int) == 40)=false:=by simp;omega
 have HGN:=hide (fun w1 (hb:Below w.heap.size w w1)=>implGain A.p A.cp n.pu m.k m.N E w1 hz.p hz.pk hk (GR.At.below h.wk.no.p.at hb) (he.below (h.wk.keep.trans (hb.mono h.wk.keep.size))));unfold GivesP at HGN;clear hz hk he;have HW:=hide h;obtain⟨mK,mF,mT,mI,mL,mk,mN⟩:=m;dsimp only at *;generalize addP n.pu mk 0 1 0 mN=r at *;open Sa87 in exact Ya19
namespace Mth
theorem ndOk_of {n:Nd} (h1:placeB n=true) (h2:psOk n.pu=true) (h3:toldB n=true) (h4:smB n.next=true) (h5:outsB n=true) (h6:reqsB n=true):ndOk n=true:=by
 unfold ndOk;rw [h1,h2,h3,h4,h5,h6];rfl
theorem addP_psOk {l:List Pu} {key:ByteArray} {dm df ds n:Int} (h:psOk l=true):psOk (addP l key dm df ds n).1=true:=by
 unfold addP withP;split
 ·rename_i hc
  simp only[Bool.and_eq_true] at hc;exact hc.2
 ·exact h
theorem ndOk_setPu {n:Nd} {l:List Pu} (h:ndOk n=true) (hl:psOk l=true):ndOk (setPu n l)=true:=by
 obtain⟨h1,_,h3,h4,h5,h6⟩:=ndOk_parts h;exact ndOk_of h1 hl h3 h4 h5 h6
theorem chk_asc {α:Type} {p:α→Bool} {f:α→Int} {l:List α} (h1:∀x∈l,p x=true) (h2:l.Pairwise (fun s t=>f s < f t)):chk p (fun s t=>ltB (f s) (f t)) l=true:=
 (chk_iff (p:=p) (r:=fun s t=>ltB (f s) (f t)) (fun a b c h1 h2=>ltB_trans _ _ _ h1 h2)).2 ⟨h1,h2.imp (fun h=>by simpa [ltB] using h)⟩
theorem reqs_of {n:Nd} (h1:0≤n.old) (h2:n.old≤1000000000) (h3:n.reqs.length≤30) (h4:n.reqs.Pairwise (fun s t=>s.no < t.no)) (h5:∀q∈n.reqs,reqB n q=true):reqsB n=true:=by
 unfold reqsB;rw [chk_asc (f:=fun r:Rq=>r.no) h5 h4];simp[amB,h1,h2,h3]
theorem reqB_of {n:Nd} {q:Rq} (h1:n.old < q.no) (h2:q.no≤1000000000) (h3:keyOk q.k.data.toList=true) (h4:smB q.n=true) (h5:0≤q.s) (h6:q.s≤2):reqB n q=true:=by
 unfold reqB;rw [h3,h4];simp only[Bool.and_true,Bool.and_eq_true,decide_eq_true_eq];omega
theorem insQ_length (l:List Rq) (q:Rq):(insQ l q).length=l.length+1:=by
 have:=reqI_le l q.no;unfold insQ;simp;omega
theorem insQ_mem {l:List Rq} {q r:Rq} (h:r∈insQ l q):r=q∨r∈l:=by
 unfold insQ at h;rcases List.mem_append.1 h with h|h
 ·exact .inr (List.mem_of_mem_take h)
 ·rcases List.mem_cons.1 h with h|h
  ·exact .inl h
  ·exact .inr (List.mem_of_mem_drop h)
theorem insQ_asc {l:List Rq} {q:Rq} (hp:l.Pairwise (fun s t=>s.no < t.no)) (hf:reqF l q.no=false):(insQ l q).Pairwise (fun s t=>s.no < t.no):=by
 have hlt:∀i (hi:i < l.length),reqI l q.no≤i→q.no < l[i].no:=fun i hi hle=>by
  have h1:=reqI_above (no:=q.no) hp i hi hle
  rcases Int.lt_or_eq_of_le h1 with h|h
  ·exact h
  ·have:=(reqF_mem hp hi h.symm).2;rw [hf] at this;cases this
 unfold insQ;rw [List.pairwise_append,List.pairwise_cons];refine⟨hp.sublist (List.take_sublist _ _),⟨fun r hr=>?_,hp.sublist (List.drop_sublist _ _)⟩,fun r hr s hs=>?_⟩
 ·obtain⟨i,hi,rfl⟩:=List.mem_iff_getElem.1 hr;rw [List.getElem_drop];exact hlt _ _ (by omega)
 ·obtain⟨i,hi,rfl⟩:=List.mem_iff_getElem.1 hr;rw [List.getElem_take];have hi':i < reqI l q.no:=by simp at hi;omega
  have hil:i < l.length:=by have:=reqI_le l q.no;omega
  have h1:=reqI_below l q.no i hil hi';rcases List.mem_cons.1 hs with rfl|hs
  ·exact h1
  ·obtain⟨j,hj,rfl⟩:=List.mem_iff_getElem.1 hs;rw [List.getElem_drop];have:=hlt (reqI l q.no+j) (by simp at hj;omega) (by omega);omega
theorem ndOk_setReqs {n:Nd} {l:List Rq} {x:Int} (h:ndOk n=true) (h1:0≤x) (h2:x≤1000000000) (h3:l.length≤30) (h4:l.Pairwise (fun s t=>s.no < t.no)) (h5:∀q∈l,reqB (setOld n x) q=true):ndOk (setReqs (setOld n x) l)=true:=by
 obtain⟨g1,g2,g3,g4,g5,_⟩:=ndOk_parts h;exact ndOk_of g1 g2 g3 g4 g5 (reqs_of h1 h2 h3 h4 h5)
theorem ndOk_keep {n:Nd} {q:Rq} (h:ndOk n=true) (hf:reqF n.reqs q.no=false) (h1:n.old < q.no) (h2:q.no≤1000000000) (h3:keyOk q.k.data.toList=true) (h4:smB q.n=true) (h5:0≤q.s) (h6:q.s≤2):ndOk (keepN n q)=true:=by
 obtain⟨_,_,_,_,_,g6⟩:=ndOk_parts h;obtain⟨a1,a2,a3,a4,a5⟩:=reqs_asc g6;have hasc:=insQ_asc a1 hf;have hlen:=insQ_length n.reqs q
 have hall:∀r∈insQ n.reqs q,reqB n r=true:=fun r hr=>by
  rcases insQ_mem hr with rfl|hr
  ·exact reqB_of h1 h2 h3 h4 h5 h6
  ·exact a3 r hr
 unfold keepN;split
 ·cases hc:insQ n.reqs q with
  |nil=>rw [hc] at hlen;simp at hlen
  |cons r l=>
   rw [hc] at hasc hall hlen
   have hp:=List.pairwise_cons.1 hasc
   have hr:=reqB_parts (hall r (by simp))
   simp only[List.headD_cons,List.tail_cons]
   refine ndOk_setReqs h (by omega) hr.2.1 (by simp at hlen;omega) hp.2 (fun s hs=>?_)
   have b:=reqB_parts (hall s (by simp[hs]))
   exact reqB_of (hp.1 s hs) b.2.1 b.2.2.1 b.2.2.2.1 b.2.2.2.2.1 b.2.2.2.2.2
 ·rename_i hc
  have e:setReqs n (insQ n.reqs q)=setReqs (setOld n n.old) (insQ n.reqs q):=rfl;rw [e];exact ndOk_setReqs h a4 a5 (by omega) hasc hall
theorem ndOk_admit {n:Nd} {no:Int} {key:ByteArray} {a:Int} (h:ndOk n=true) (h2:no≤1000000000) (h3:keyOk key.data.toList=true) (h4:smB a=true):ndOk (admitN n no key a).1=true:=by
 unfold admitN;split
 ·exact h
 ·split
  ·exact h
  ·rename_i hs hf
   have hpu:=ndOk_setPu (l:=(addP n.pu key 0 (-1) 1 a).1) h (addP_psOk (ndOk_parts h).2.1);refine ndOk_keep hpu ?_ ?_ h2 h3 h4 ?_ ?_
   ·show reqF n.reqs no=false
    simpa using hf
   ·show n.old < no
    omega
   ·dsimp only;split<;>omega
   ·dsimp only;split<;>omega
theorem getD_mem {l:List Rq} {i:Nat} (hi:i < l.length):l.getD i default=l[i]:=by rw [List.getD_eq_getElem?_getD,List.getElem?_eq_getElem hi];rfl
theorem ndOk_release {n:Nd} {no:Int} (h:ndOk n=true):ndOk (releaseN n no).1=true:=by
 unfold releaseN;split
 ·exact h
 ·split
  ·exact h
  ·split
   ·exact h
   ·split
    ·exact h
    ·split
     ·rename_i hf _ _ hp
      obtain⟨hi,hno⟩:=(reqF_iff n.reqs no).1 (by simpa using hf);have hpu:=ndOk_setPu (l:=(addP n.pu (n.reqs.getD (reqI n.reqs no) default).k 0 1 (-1) (n.reqs.getD (reqI n.reqs no) default).n).1) h (addP_psOk (ndOk_parts h).2.1);obtain⟨_,_,_,_,_,g6⟩:=ndOk_parts h;obtain⟨a1,a2,a3,a4,a5⟩:=reqs_asc g6;rw [getD_mem hi] at hpu ⊢;have hb:=reqB_parts (a3 _ (List.getElem_mem hi));have e:∀l,setReqs (setPu n l) (n.reqs.set (reqI n.reqs no) (relQ n.reqs[reqI n.reqs no]))=setReqs (setOld (setPu n l) (setPu n l).old) (n.reqs.set (reqI n.reqs no) (relQ n.reqs[reqI n.reqs no])):=fun _=>rfl
      rw [e];refine ndOk_setReqs hpu a4 a5 (by simpa using a2) ?_ ?_
      ·rw [List.pairwise_iff_getElem] at a1 ⊢;intro i j hi' hj' hij
       have e2:∀k (hk:k < (n.reqs.set (reqI n.reqs no) (relQ n.reqs[reqI n.reqs no])).length),((n.reqs.set (reqI n.reqs no) (relQ n.reqs[reqI n.reqs no]))[k]).no=(n.reqs[k]'(by simpa using hk)).no:=fun k hk=>by
        rw [List.getElem_set]
        split
        ·rename_i he;subst he;rfl
        ·rfl
       rw [e2 i hi',e2 j hj'];exact a1 i j (by simpa using hi') (by simpa using hj') hij
      ·intro q hq;rcases List.mem_or_eq_of_mem_set hq with hq|rfl
       ·exact a3 q hq
       ·exact reqB_of (show n.old < _ by have:=hb.1;simp only[relQ];omega) hb.2.1 hb.2.2.1 hb.2.2.2.1 (by simp[relQ]) (by simp[relQ])
     ·exact h
theorem ndOk_give {n:Nd} {dst:Int} {key:ByteArray} {a:Int} (h:ndOk n=true) (hd:nearB n dst=true) (hk:keyOk key.data.toList=true) (ha:a≤1000000000):ndOk (giveN n dst key a).1=true:=by
 unfold giveN;split
 ·rename_i hp
  obtain⟨g1,g2,g3,g4,g5,g6⟩:=ndOk_parts h;obtain⟨o1,o2,o3⟩:=outs_asc g5;unfold payB at hp;have hp:=of_decide_eq_true hp;have hn:1≤n.next∧n.next≤1000000000:=by simpa [smB] using g4
  have hle:amtP n key a≤1000000000:=by unfold amtP;split<;>omega
  refine ndOk_of g1 (addP_psOk g2) g3 ?_ ?_ g6
  ·show smB (n.next+1)=true
   unfold smB;simp only[decide_eq_true_eq];omega
  ·unfold outsB;have e:(paidN n dst key (amtP n key a)).out=n.out++[⟨n.next,dst,key,amtP n key a⟩]:=rfl;rw [e];rw [chk_asc (f:=fun r:Snt=>r.i)]
   ·simp;omega
   ·intro s hs;have eB:∀s,outB (paidN n dst key (amtP n key a)) s=(decide (1≤s.i∧s.i≤n.next+1 - 1)&&nearB n s.t&&keyOk s.k.data.toList&&smB s.n):=fun _=>rfl
    rw [eB];rcases List.mem_append.1 hs with hs|hs
    ·have:=o3 s hs;unfold outB at this;simp only[Bool.and_eq_true,decide_eq_true_eq] at this ⊢;exact⟨⟨⟨by omega,this.1.1.2⟩,this.1.2⟩,this.2⟩
    ·obtain rfl:s=⟨n.next,dst,key,amtP n key a⟩:=by simpa using hs
     simp only[Bool.and_eq_true,decide_eq_true_eq];refine⟨⟨⟨by omega,hd⟩,hk⟩,?_⟩;unfold smB;simp only[decide_eq_true_eq];omega
   ·rw [List.pairwise_append];refine⟨o1,by simp,fun s hs t ht=>?_⟩;obtain rfl:t=⟨n.next,dst,key,amtP n key a⟩:=by simpa using ht
    have:=o3 s hs;unfold outB at this;simp only[Bool.and_eq_true,decide_eq_true_eq] at this;show s.i < n.next
    omega
 ·exact h
theorem seenI_lt {n:Nd} (h:ndOk n=true) {f:Int} (hf:nearB n f=true):∃hi:seenI n.seen f < n.seen.length,n.seen[seenI n.seen f].f=f:=by
 obtain⟨g1,_,g3,_,_,_⟩:=ndOk_parts h;rw [told_eq g1,Bool.and_eq_true,decide_eq_true_eq] at g3;have hm:f∈n.seen.map (·.f):=by rw [g3.1,srt_mem];exact(near_iff g1 f).1 hf
 obtain⟨s,hs,rfl⟩:=List.mem_map.1 hm;have hx:seenI n.seen s.f < n.seen.length:=List.findIdx_lt_length_of_exists ⟨s,hs,by simp⟩;exact⟨hx,of_decide_eq_true (List.findIdx_getElem (p:=fun t:Sn=>decide (t.f=s.f)) (w:=hx))⟩
theorem seen_mem {n:Nd} (h:ndOk n=true):∀s∈n.seen,snB s=true:=by
 obtain⟨g1,_,g3,_,_,_⟩:=ndOk_parts h;rw [told_eq g1,Bool.and_eq_true] at g3;exact List.all_eq_true.1 g3.2
theorem snB_parts {s:Sn} (h:snB s=true):1≤s.l∧s.l≤1000000000∧s.ids.length≤40∧(∀x∈s.ids,s.l≤x∧x≤1000000000)∧s.ids.Pairwise (· < ·):=by
 unfold snB at h;simp only[Bool.and_eq_true,decide_eq_true_eq] at h;have h1:1≤s.l∧s.l≤1000000000:=by simpa [smB] using h.1.1
 have h2:=(chk_iff (p:=idB s.l) (r:=ltB) ltB_trans).1 h.2;exact⟨h1.1,h1.2,h.1.2,fun x hx=>by simpa [idB] using h2.1 x hx,h2.2.imp (fun h=>by simpa [ltB] using h)⟩
theorem snB_of {s:Sn} (h1:1≤s.l) (h2:s.l≤1000000000) (h3:s.ids.length≤40) (h4:∀x∈s.ids,s.l≤x∧x≤1000000000) (h5:s.ids.Pairwise (· < ·)):snB s=true:=by
 unfold snB;rw [(chk_iff (p:=idB s.l) (r:=ltB) ltB_trans).2 ⟨fun x hx=>by simpa [idB] using h4 x hx,h5.imp (fun h=>by simpa [ltB] using h)⟩];simp[smB,h1,h2,h3]
theorem ndOk_setSeen {n:Nd} {i:Nat} (hi:i < n.seen.length) {s:Sn} (h:ndOk n=true) (hf:s.f=n.seen[i].f) (hs:snB s=true):ndOk (setSeen n (n.seen.set i s))=true:=by
 obtain⟨g1,g2,g3,g4,g5,g6⟩:=ndOk_parts h;refine ndOk_of g1 g2 ?_ g4 g5 g6;have g1':placeB (setSeen n (n.seen.set i s))=true:=g1;rw [told_eq g1',Bool.and_eq_true,decide_eq_true_eq];rw [told_eq g1,Bool.and_eq_true,decide_eq_true_eq] at g3;refine⟨?_,?_⟩
 ·show(n.seen.set i s).map (·.f)=srt (nbrs n)
  rw [←g3.1,List.map_set,hf];apply List.ext_getElem?
  intro j;rw [List.getElem?_set];split
  ·rename_i e
   subst e;simp[hi]
  ·rfl
 ·show(n.seen.set i s).all snB=true
  rw [List.all_eq_true];intro x hx;rcases List.mem_or_eq_of_mem_set hx with hx|rfl
  ·exact List.all_eq_true.1 g3.2 x hx
  ·exact hs
theorem lowS_in {s:Sn} {low:Int} (h:snB s=true) (h1:low≤1000000000):1≤lowS s low∧lowS s low≤1000000000∧s.l≤lowS s low∧low≤lowS s low:=by
 have:=snB_parts h;unfold lowS;split<;>omega
theorem idsS_ok {s:Sn} {low:Int} (h:snB s=true) (h1:low≤1000000000):snB ⟨s.f,lowS s low,idsS s low⟩=true:=by
 have hl:=lowS_in h h1;obtain⟨a1,a2,a3,a4,a5⟩:=snB_parts h;refine snB_of hl.1 hl.2.1 ?_ ?_ ?_
 ·exact Nat.le_trans (List.length_filter_le _ _) a3
 ·intro x hx;have:=List.mem_filter.1 hx;exact⟨by simpa using this.2,(a4 x this.1).2⟩
 ·exact a5.sublist List.filter_sublist
theorem takeWhile_lt (x:Int):∀(l:List Int),∀y∈l.takeWhile (fun y=>decide (y < x)),y < x:=by
 intro l;induction l with
 |nil=>intro y hy;simp at hy
 |cons z l ih=>
  intro y hy
  by_cases hz:z < x
  ·rw [List.takeWhile_cons_of_pos (by simpa using hz)] at hy;rcases List.mem_cons.1 hy with rfl|hy
   ·exact hz
   ·exact ih y hy
  ·rw [List.takeWhile_cons_of_neg (by simpa using hz)] at hy;cases hy
theorem dropWhile_le (x:Int):∀(l:List Int),l.Pairwise (· < ·)→∀y∈l.dropWhile (fun y=>decide (y < x)),x≤y:=by
 intro l;induction l with
 |nil=>intro _ y hy;simp at hy
 |cons z l ih=>
  intro hp y hy
  by_cases hz:z < x
  ·rw [List.dropWhile_cons_of_pos (by simpa using hz)] at hy;exact ih (List.pairwise_cons.1 hp).2 y hy
  ·rw [List.dropWhile_cons_of_neg (by simpa using hz)] at hy;rcases List.mem_cons.1 hy with rfl|hy
   ·omega
   ·have:=(List.pairwise_cons.1 hp).1 y hy;omega
theorem insI_length (l:List Int) (x:Int):(insI l x).length=l.length+1:=by
 unfold insI;have:=congrArg List.length (List.takeWhile_append_dropWhile (p:=fun y=>decide (y < x)) (l:=l));rw [List.length_append] at this;rw [List.length_append,List.length_cons];omega
theorem insI_mem {l:List Int} {x y:Int}:y∈insI l x↔y=x∨y∈l:=by
 unfold insI;have e:=List.takeWhile_append_dropWhile (p:=fun y=>decide (y < x)) (l:=l);constructor
 ·intro h;rcases List.mem_append.1 h with h|h
  ·exact .inr ((List.takeWhile_sublist _).mem h)
  ·rcases List.mem_cons.1 h with h|h
   ·exact .inl h
   ·exact .inr ((List.dropWhile_sublist _).mem h)
 ·rintro(rfl|h)
  ·simp
  ·rw [←e] at h;rcases List.mem_append.1 h with h|h
   ·exact List.mem_append.2 (.inl h)
   ·exact List.mem_append.2 (.inr (List.mem_cons_of_mem _ h))
theorem insI_asc {l:List Int} {x:Int} (hp:l.Pairwise (· < ·)) (hx:x∉l):(insI l x).Pairwise (· < ·):=by
 unfold insI;rw [List.pairwise_append,List.pairwise_cons];refine⟨hp.sublist (List.takeWhile_sublist _),⟨fun y hy=>?_,hp.sublist (List.dropWhile_sublist _)⟩,fun y hy z hz=>?_⟩
 ·have h1:=dropWhile_le x l hp y hy;have h2:y≠x:=fun e=>hx (e▸(List.dropWhile_sublist _).mem hy)
  omega
 ·have h1:=takeWhile_lt x l y hy;rcases List.mem_cons.1 hz with rfl|hz
  ·exact h1
  ·have h2:=dropWhile_le x l hp z hz;omega
theorem hasS_no {s:Sn} {low i:Int} (h:hasS s low i=false):lowS s low≤i∧i∉idsS s low:=by
 unfold hasS at h;rw [Bool.or_eq_false_iff] at h;refine⟨by simpa using h.1,fun hm=>?_⟩;rw [(has_iff _ _).2 hm] at h;cases h.2
theorem sn_getD {l:List Sn} {i:Nat} (hi:i < l.length):l.getD i default=l[i]:=by rw [List.getD_eq_getElem?_getD,List.getElem?_eq_getElem hi];rfl
theorem ndOk_take {n:Nd} {m:Mg} (h:ndOk n=true) (hd:nearB n m.F=true) (hL:m.L≤1000000000) (hI:m.I≤1000000000):ndOk (takeN n m).1=true:=by
 obtain⟨hi,hf⟩:=seenI_lt h hd;have hs:=seen_mem h _ (List.getElem_mem hi);unfold takeN;rw [sn_getD hi];split
 ·exact Za106
 ·split
  ·rename_i h1 h2
   have h1':hasS n.seen[seenI n.seen m.F] m.L m.I=false:=by simpa using h1
   obtain⟨b1,b2⟩:=hasS_no h1';have ho:=snB_parts (idsS_ok hs hL);have hl:=lowS_in hs hL;unfold gainB at h2;simp only[Bool.and_eq_true,decide_eq_true_eq] at h2;have hpu:=ndOk_setPu (l:=(addP n.pu m.k 0 1 0 m.N).1) h (addP_psOk (ndOk_parts h).2.1);refine ndOk_setSeen (n:=setPu n (addP n.pu m.k 0 1 0 m.N).1) hi hpu hf.symm ?_;refine snB_of hl.1 hl.2.1 ?_ ?_ ?_
   ·show(insI (idsS n.seen[seenI n.seen m.F] m.L) m.I).length≤40
    rw [insI_length];omega
   ·intro x hx;rcases insI_mem.1 hx with rfl|hx
    ·exact⟨b1,hI⟩
    ·exact ho.2.2.2.1 x hx
   ·exact insI_asc ho.2.2.2.2 b2
  ·exact Za106
theorem ndOk_filter {n:Nd} {p:Snt→Bool} (h:ndOk n=true):ndOk (setOut n (n.out.filter p))=true:=by
 obtain⟨g1,g2,g3,g4,g5,g6⟩:=ndOk_parts h;obtain⟨o1,o2,o3⟩:=outs_asc g5;refine ndOk_of g1 g2 g3 g4 ?_ g6;unfold outsB;have e:(setOut n (n.out.filter p)).out=n.out.filter p:=rfl;rw [e,chk_asc (f:=fun r:Snt=>r.i)]
 ·simp only[Bool.and_true,decide_eq_true_eq];exact Nat.le_trans (List.length_filter_le _ _) o2
 ·intro s hs;exact o3 s (List.mem_filter.1 hs).1
 ·exact o1.sublist List.filter_sublist
theorem mgOk_pay {m:Mg} (h:mgOk m=true) (hK:m.K=1):1≤m.I∧m.I≤1000000000∧1≤m.L∧m.L≤1000000000∧keyOk m.k.data.toList=true∧1≤m.N∧m.N≤1000000000:=by
 unfold mgOk at h;simp[hK,smB] at h;refine⟨?_,?_,?_,?_,?_,?_,?_⟩<;>first|omega|simp_all
theorem mgOk_want {m:Mg} (h:mgOk m=true) (hK:m.K=0):keyOk m.k.data.toList=true∧1≤m.N∧m.N≤1000000000:=by
 unfold mgOk at h;simp[hK,smB] at h;refine⟨?_,?_,?_⟩<;>first|omega|simp_all
theorem mgOk_kind {m:Mg} (h:mgOk m=true):m.K=0∨m.K=1∨m.K=2:=by
 unfold mgOk at h;by_cases h0:m.K=0
 ·exact .inl h0
 ·by_cases h1:m.K=1
  ·exact .inr (.inl h1)
  ·by_cases h2:m.K=2
   ·exact .inr (.inr h2)
   ·exfalso
    simp[h0,h1,h2] at h
theorem ndOk_hear {n:Nd} {m:Mg} (h:ndOk n=true) (hm:mgOk m=true) (hd:nearB n m.F=true):ndOk (hearN n m).1=true:=by
 unfold hearN;split
 ·rename_i hK
  have hp:=mgOk_pay hm hK;exact ndOk_take h hd hp.2.2.2.1 hp.2.1
 ·split
  ·exact ndOk_filter h
  ·split
   ·rename_i h1 h2 _
    have hK:m.K=0:=by rcases mgOk_kind hm with h|h|h<;>omega
    have hp:=mgOk_want hm hK;exact ndOk_give h hd hp.1 hp.2.2
   ·exact h
theorem ndOk_par {n:Nd} (h:ndOk n=true) (hp:¬n.par= -1):nearB n n.par=true:=by
 have:=(place_kids (ndOk_parts h).1).2.2;unfold nearB;rw [decide_eq_true (show 0≤n.par by omega)];simp
theorem opOk_key {o:Op5} (h:opOk o=true) (hK:o.K=0∨o.K=3∨o.K=4):keyOk o.k.data.toList=true∧1≤o.n∧o.n≤1000000000:=by
 unfold opOk at h;rw [if_pos hK] at h;simp only[Bool.and_eq_true] at h;have:=h.1.1.2;unfold smB at this;have:=of_decide_eq_true this;exact⟨h.1.1.1,this.1,this.2⟩
theorem opOk_admit {o:Op5} (h:opOk o=true) (hK:o.K=1):keyOk o.k.data.toList=true∧1≤o.n∧o.n≤1000000000∧1≤o.no∧o.no≤1000000000:=by
 unfold opOk at h;rw [if_neg (by omega),if_pos hK] at h;simp only[Bool.and_eq_true] at h;have h1:=h.1.1.2;have h2:=h.1.2;unfold smB at h1 h2;have h1:=of_decide_eq_true h1;have h2:=of_decide_eq_true h2;exact⟨h.1.1.1,h1.1,h1.2,h2.1,h2.2⟩
theorem opOk_release {o:Op5} (h:opOk o=true) (hK:o.K=2):1≤o.no∧o.no≤1000000000:=by
 unfold opOk at h;rw [if_neg (by omega),if_neg (by omega),if_pos hK] at h;simp only[Bool.and_eq_true] at h;have h2:=h.1.2;unfold smB at h2;exact of_decide_eq_true h2
theorem opOk_hear {o:Op5} (h:opOk o=true) (hK:o.K=6):mgOk o.m=true:=by
 unfold opOk at h;rw [if_neg (by omega),if_neg (by omega),if_neg (by omega),if_neg (by omega),if_pos hK] at h;simp only[Bool.and_eq_true] at h;exact h.2
theorem opOk_kind {o:Op5} (h:opOk o=true):o.K=0∨o.K=1∨o.K=2∨o.K=3∨o.K=4∨o.K=5∨o.K=6:=by
 unfold opOk at h;split at h
 ·omega
 ·split at h
  ·omega
  ·split at h
   ·omega
   ·split at h
    ·omega
    ·split at h
     ·omega
     ·cases h
theorem addrB_hear {n:Nd} {o:Op5} (h:addrB n o=true) (hK:o.K=6):o.m.T=n.id∧nearB n o.m.F=true:=by
 unfold addrB at h;simpa [hK] using h
theorem ndOk_act {n:Nd} {o:Op5} (h:ndOk n=true) (ho:opOk o=true) (ha:addrB n o=true):ndOk (actN n o).1=true:=by
 unfold actN;split
 ·split
  ·exact ndOk_setPu h (addP_psOk (ndOk_parts h).2.1)
  ·exact h
 ·split
  ·rename_i hK
   have hp:=opOk_admit ho hK;exact ndOk_admit h hp.2.2.2.2 hp.1 (by unfold smB;simp only[decide_eq_true_eq];omega)
  ·split
   ·exact ndOk_release h
   ·split
    ·split
     ·exact h
     ·exact h
    ·split
     ·split
      ·exact h
      ·rename_i hK hpar
       have hp:=opOk_key ho (by omega);exact ndOk_give h (ndOk_par h hpar) hp.1 hp.2.2
     ·split
      ·exact h
      ·have hK:o.K=6:=by rcases opOk_kind ho with h|h|h|h|h|h|h<;>omega
       exact ndOk_hear h (opOk_hear ho hK) (addrB_hear ha hK).2
theorem ndOk_wdo {n:Nd} {o:Op5} (h:ndOk n=true):ndOk (wdoN n o).1=true:=by
 unfold wdoN;split
 ·rename_i hc
  rw [Bool.and_eq_true] at hc;exact ndOk_act h hc.1 hc.2
 ·exact h
theorem ndOk_do {n:Nd} {o:Op5} (h:ndOk n=true):ndOk (doN n o).1=true:=by rw [doN_ok h];exact ndOk_wdo h
end Mth
set_option maxHeartbeats 2000000
theorem fpI_nodup (I:Nat→Nat) (l:List Sn):(fpI I l).Nodup↔∀i j (hi:i < l.length) (hj:j < l.length),i < j→0 < l[i].ids.length→0 < l[j].ids.length→I i≠I j:=by
 have hg:∀i (hi:i < l.length),l.getD i default=l[i]:=fun i hi=>by rw [List.getD_eq_getElem?_getD,List.getElem?_eq_getElem hi];rfl
 unfold fpI List.Nodup;rw [List.pairwise_flatMap];constructor
 ·rintro⟨_,h⟩ i j hi hj hij h1 h2 e;rw [List.pairwise_iff_getElem] at h;have:=h i j (by simpa using hi) (by simpa using hj) hij;rw [List.getElem_range,List.getElem_range,hg i hi,hg j hj] at this;exact this (I i) (fp_mem h1) (I j) (fp_mem h2) e
 ·intro h;refine⟨fun i _=>fp_nodup _ _,?_⟩;rw [List.pairwise_iff_getElem];intro i j hi hj hij x hx y hy;have hi':i < l.length:=by simpa using hi
  have hj':j < l.length:=by simpa using hj
  rw [List.getElem_range,hg i hi'] at hx;rw [List.getElem_range,hg j hj'] at hy;obtain⟨rfl,h1⟩:=of_fp hx;obtain⟨rfl,h2⟩:=of_fp hy;exact h i j hi' hj' hij h1 h2
def setI (I:Nat→Nat) (k gi:Nat):Nat→Nat:=fun i=>if i=k then gi else I i
theorem SeenW.store {w:World} {a:Option Addr} {g:Nat} {I:Nat→Nat} {l:List Sn} (h:SeenW w a g I l) (k:Nat) (hk:k < l.length) (s:Sn) (b:Option Addr) (cc gi:Nat) (hi:GR.W encNum 1 w b gi s.ids) (hg4:∀x∈fpI I l,x≠g) (hgi:∀x∈fp gi s.ids,x≠g):
 SeenW (GR.setW w g (k*3) [.int .i64 s.f,.int .i64 s.l,.slice b s.ids.length cc]) a g (setI I k gi) (l.set k s):=by
 obtain⟨T,hT,hl,hr⟩:=h;have hkT:k < T.length:=by omega
 have hkp:=setW_keeps (g:=g) [.int .i64 s.f,.int .i64 s.l,.slice b s.ids.length cc] w (k*3);refine⟨T.set k ⟨s.f,s.l,.slice b s.ids.length cc⟩,GR.W.set encR3_length hT k ⟨s.f,s.l,.slice b s.ids.length cc⟩ hkT,by simpa using hl,fun i hi'=>?_⟩;have hil:i < l.length:=by simpa using hi'
 by_cases e:i=k
 ·subst e;refine⟨b,cc,?_,?_⟩
  ·rw [List.getElem_set_self,List.getElem?_set_self hkT]
  ·rw [List.getElem_set_self];unfold setI;rw [if_pos rfl];exact hi.keeps hkp (fun x hx=>by simpa using hgi x hx)
 ·obtain⟨b',c',ht,hi2⟩:=hr i hil;refine⟨b',c',?_,?_⟩
  ·rw [List.getElem_set_ne (by omega),List.getElem?_set_ne (by omega)];exact ht
  ·rw [List.getElem_set_ne (by omega)];unfold setI;rw [if_neg e];exact hi2.keeps hkp (fun x hx=>by simpa using hg4 x (fpI_mem hil x hx))
theorem KC.setW {c:Nat→Nat} {k g o:Nat} {w:World} (vs:List Value) (hc:c g=k):KC c k w (GR.setW w g o vs):=KC.keeps (setW_keeps vs w o) (fun x hx=>by have:x=g:=(by simpa using hx);rw [this];exact hc)
theorem WK.seenPut {w0 w:World} {wb:Nat} {n:Nd} {A:Ads} {G:Blks} {c:Nat→Nat} {v:Value} {L:List Mg} (h:WK w0 w wb n A G c v L) (k:Nat) (hk:k < n.seen.length) (s:Sn) (b:Option Addr) (cc gi:Nat) (hi:GR.W encNum 1 w b gi s.ids) (h5:∀x∈fp gi s.ids,c x=5∧x∉fpI G.i n.seen):
 WK w0 (GR.setW w G.s (k*3) [.int .i64 s.f,.int .i64 s.l,.slice b s.ids.length cc]) wb (setSeen n (n.seen.set k s)) A ⟨G.k,G.p,G.o,G.s,G.r,setI G.i k gi⟩ c v L:=by
 have c4:c G.s=4:=h.no.c4 G.s (fp_mem (by omega));have hkc:KC c 4 w (GR.setW w G.s (k*3) [.int .i64 s.f,.int .i64 s.l,.slice b s.ids.length cc]):=KC.setW _ c4;have hN:=h.no;have hlen:(n.seen.set k s).length=n.seen.length:=List.length_set ..
 have hci:∀x∈fpI (setI G.i k gi) (n.seen.set k s),c x=5:=fun x hx=>by
  obtain⟨i,hi',rfl,hpos⟩:=of_fpI hx
  unfold setI
  by_cases e:i=k
  ·subst e;rw [if_pos rfl];rw [List.getElem_set_self] at hpos;exact(h5 gi (fp_mem hpos)).1
  ·rw [if_neg e];rw [List.getElem_set_ne (by omega)] at hpos;exact hN.ci _ (fpI_mem (by omega) _ (fp_mem hpos))
 refine⟨hkc.below h.keep hN.lo (by omega) h.keep.size,?_,⟨hkc.w hN.k hN.ck (by omega),hkc.w hN.p hN.cp (by omega),hkc.own hN.o hN.co (by omega),?_,hkc.own hN.r hN.cr (by omega),hN.lo,hN.ck,hN.cp,hN.co,?_,hci,hN.cr,?_⟩,hkc.own h.m h.cm (by omega),h.cm,h.cw⟩
 ·have hb:=hkc.obj h.blk (by rw [h.cw];omega)
  have e:wkc (setSeen n (n.seen.set k s)) A v=wkc n A v:=by
   unfold wkc setSeen;rw [hlen]
  rw [e];exact hb
 ·exact hN.s.store k hk s b cc gi hi (fun x hx e=>by have:=hN.ci x hx;rw [e,c4] at this;cases this) (fun x hx e=>by have:=(h5 x hx).1;rw [e,c4] at this;cases this)
 ·intro x hx;have h1:x=G.s:=(of_fp hx).1;rw [h1];exact c4
 ·show(fpI (setI G.i k gi) (n.seen.set k s)).Nodup
  have hni:=(fpI_nodup G.i n.seen).1 hN.ni;rw [fpI_nodup];intro i j hi' hj' hij h1 h2;have hil:i < n.seen.length:=by omega
  have hjl:j < n.seen.length:=by omega
  unfold setI;by_cases ei:i=k
  ·subst ei;rw [if_pos rfl,if_neg (by omega)];rw [List.getElem_set_self] at h1;rw [List.getElem_set_ne (by omega)] at h2;exact fun e=>(h5 gi (fp_mem h1)).2 (e▸fpI_mem hjl _ (fp_mem h2))
  ·rw [if_neg ei];rw [List.getElem_set_ne (by omega)] at h1;by_cases ej:j=k
   ·subst ej;rw [if_pos rfl];rw [List.getElem_set_self] at h2;exact fun e=>(h5 gi (fp_mem h2)).2 (e▸fpI_mem hil _ (fp_mem h1))
   ·rw [if_neg ej];rw [List.getElem_set_ne (by omega)] at h2;exact hni i j hil hjl hij h1 h2
theorem isFrom (f lo:Int) (b:Option Addr) (q cc B:Nat) (m:Mg) (w:World) (hB:w.heap[B]?=some (.cells #[.int .i64 m.K,.int .i64 m.F,.int .i64 m.T,.int .i64 m.I,.int .i64 m.L,.string m.k,.int .i64 m.N] 32 (0,0))):
 Calls Tryz.prog 194 #[.agg #[.int .i64 f,.int .i64 lo,.slice b q cc],.pointer (some ⟨B,0,none⟩)] w fun e w'=>e= .returned (.bool (f == m.F))∧Below w.heap.size w w':=by
 have hBl:=obj_lt hB;obtain⟨⟨p0,p1,p2,p3,p4,p5,p6⟩,_⟩:=seven_at hB;clear hB;obtain⟨mK,mF,mT,mI,mL,mk,mN⟩:=m;dsimp only at *;go_enter Tryz.func194,Tryz.ntmps194
 exact Za47
theorem idxSeen (a:Option Addr) (cap:Nat) (l:List Sn) (B:Nat) (m:Mg) (w:World) (hl:l.length≤1000) (ha:SeenAt w a l) (hB:w.heap[B]?=some (.cells #[.int .i64 m.K,.int .i64 m.F,.int .i64 m.T,.int .i64 m.I,.int .i64 m.L,.string m.k,.int .i64 m.N] 32 (0,0))) (hf:seenI l m.F < l.length):
 Calls Tryz.prog 193 #[.slice a l.length cap,.func (.func 194) #[] #[.pointer (some ⟨B,0,none⟩)]] w fun e w'=>e= .returned (.int .i64 (seenI l m.F:Nat))∧Below w.heap.size w w':=by
 have HC:=hide (fun f lo b q cc w1 (hb:Below w.heap.size w w1)=>isFrom f lo b q cc B m w1 (obj_step hB hb));have HA:=hide ha
 have HN:Hid (∀i (hi:i < l.length),i < seenI l m.F→(l[i].f == m.F)=false):=fun i hi h=>by
  have:=List.not_of_lt_findIdx h
  simpa using this
 have HY:Hid (∀(hi:seenI l m.F < l.length),(l[seenI l m.F].f == m.F)=true):=fun hi=>by
  have:=List.findIdx_getElem (p:=fun t:Sn=>decide (t.f=m.F)) (w:=hi)
  exact beq_iff_eq.2 (of_decide_eq_true this)
 clear ha hB;generalize seenI l m.F=R at *;go_enter Tryz.func193,Tryz.ntmps193
 go_wp2_with fail;go_loopw [8] (fun i wr=>∃k:Nat,k≤R∧i= .int .i64 k∧Below w.heap.size w wr) (fun i _=>l.length - (intOf i).toNat)
 case atStart=>exact Za32
 case round=>
  obtain⟨k,hk,rfl,hbw⟩:=hrel;have HB:=hide hbw;have hkl:k < l.length:=by omega
  have hklI:(k:Int) < (l.length:Int):=by omega
  obtain⟨g,off,b,cc,e0,hg,q0,q1,q2,_⟩:=SeenAt.below HA hbw k hkl;have HCk:=hide (HC l[k].f l[k].l b l[k].ids.length cc);have HNk:=hide (HN k hkl)
  have HYk:Hid (k=R→(l[k].f == m.F)=true):=fun e=>by
   subst e
   exact HY hkl
  subst e0;clear hbw HC HN HY;generalize l[k]=sk at *;obtain⟨sf,sl,si⟩:=sk;dsimp only at q0 q1 q2 HCk HNk HYk;by_cases hR:k=R
  ·have hq:=unhide HYk hR;subst hR;open Sa193 in exact Ya47
  ·have hq:=unhide HNk (by omega);open Sa192 in exact Ya47
end Go.Proofs.YtppmcficiphgdaaGreatDoor
