/- Parts. -/
import Derived.Test.YtacgbldlonoaaaaGreatDoorRa20
namespace Go.Proofs.YtacgbldlonoaaaaGreatDoor
open Go.RowKit
theorem gT {w:World} {g:Nat} {a0 a1 a2 a3 a4 a5 a6:Value} {t:TypeId} (h:w.heap[g]?=some (.cells #[a0,a1,a2,a3,a4,a5,a6] t (0,0))):
 (w.cell? ⟨g,0,none⟩=some a0∧w.cell? ⟨g,1,none⟩=some a1∧w.cell? ⟨g,2,none⟩=some a2∧w.cell? ⟨g,3,none⟩=some a3∧w.cell? ⟨g,4,none⟩=some a4∧w.cell? ⟨g,5,none⟩=some a5∧w.cell? ⟨g,6,none⟩=some a6)∧
  (w.frozen? ⟨g,0,none⟩=false∧w.frozen? ⟨g,1,none⟩=false∧w.frozen? ⟨g,2,none⟩=false∧w.frozen? ⟨g,3,none⟩=false∧w.frozen? ⟨g,4,none⟩=false∧w.frozen? ⟨g,5,none⟩=false∧w.frozen? ⟨g,6,none⟩=false):=by
 have hf:∀i,w.frozen? ⟨g,i,none⟩=false:=fun i=>by unfold World.frozen?;rw [h];simp
 exact⟨Q9 h,hf 0,hf 1,hf 2,hf 3,hf 4,hf 5,hf 6⟩
theorem blk_set {w:World} {c:Nat} {cs:Array Value} {t:TypeId} (h:w.heap[c]?=some (.cells cs t (0,0))) (i:Nat) (v:Value):(w.setCell ⟨c,i,none⟩ v).heap[c]?=some (.cells (cs.setIfInBounds i v) t (0,0)):=by
 exact abb
theorem one_other {w:World} {g g' i:Nat} {v:Value} {o:Option Obj} (h:w.heap[g']?=o) (hne:g'≠g):(w.setCell ⟨g,i,none⟩ v).heap[g']?=o:=by rw [Below.heap_setCell _ _ _ _ hne,h]
theorem bodyPost_at {P:Program} {fn:Func} {Q:Ending→World→Prop} {x:Exit} {act:Act} {W:World} (h:∀W',W'=W→bodyPost P fn Q x act W'):bodyPost P fn Q x act W:=h W rfl
set_option maxHeartbeats 4000000
set_option maxRecDepth 100000
open Go.RowKit Go.Maps
open Mth
structure mX (w0 w:World) (wb sb mb k:Nat) (n:Nd) (A:bE) (G:aU) (c:Nat→Nat) (v:Value) (L:List Mg) (low:Int) (l:List Int):Prop where
 wk:WK w0 w wb n A G c v L
 bk:jk w sb mb low
 si:eu w mb k l
 cs:c sb=9
 cm:c mb=9
theorem mX.step {w0 w w':World} {wb sb mb k:Nat} {n:Nd} {A:bE} {G:aU} {c:Nat→Nat} {v:Value} {L:List Mg} {low:Int} {l:List Int} (h:mX w0 w wb sb mb k n A G c v L low l) (hb:Below w.heap.size w w'):mX w0 w' wb sb mb k n A G c v L low l:=
 ⟨h.wk.step hb,aj h.bk hb,h.si.kept (hb.block mb h.si.lt),h.cs,h.cm⟩
theorem mX.ne {w0 w:World} {wb sb mb k:Nat} {n:Nd} {A:bE} {G:aU} {c:Nat→Nat} {v:Value} {L:List Mg} {low:Int} {l:List Int} (h:mX w0 w wb sb mb k n A G c v L low l):sb≠wb∧mb≠wb:=by
 have h8:=h.wk.cw;refine⟨fun e=>?_,fun e=>?_⟩
 ·have:=h.cs;rw [e,h8] at this;cases this
 ·have:=h.cm;rw [e,h8] at this;cases this
theorem mX.settled {w0 w x w':World} {wb sb mb k:Nat} {n n':Nd} {A A':bE} {G G':aU} {c c':Nat→Nat} {v:Value} {L:List Mg} {low:Int} {l:List Int} (h:mX w0 w wb sb mb k n A G c v L low l) (hb:Below w.heap.size w x) (hw:WK w0 w' wb n' A' G' c' v L) (hk:∀k o,k≠wb→x.heap[k]?=some o→w'.heap[k]?=some o) (hc:∀k,k < w.heap.size→c' k=c k):mX w0 w' wb sb mb k n' A' G' c' v L low l:=by
 have h1:=h.step hb;refine⟨hw,hk sb _ h.ne.1 h1.bk,?_,(hc sb (aA h.bk)).trans h.cs,(hc mb h.si.lt).trans h.cm⟩;obtain⟨D,⟨es,clock,hbk,rest⟩,ha⟩:=h1.si;exact⟨D,⟨es,clock,hk mb _ h.ne.2 hbk,rest⟩,ha⟩
theorem mX.put {w0 w w':World} {wb sb mb k:Nat} {n:Nd} {A:bE} {G:aU} {c:Nat→Nat} {v:Value} {L:List Mg} {low x:Int} {l:List Int} (h:mX w0 w wb sb mb k n A G c v L low l) (hs:eu w' mb (k+1) (x::l)) (hk:Keeps mb w w'):mX w0 w' wb sb mb (k+1) n A G c v L low (x::l):=by
 have hne:=h.si.ne h.bk;have hkc:KC c 9 w w':=⟨hk.os,hk.tape,hk.output,hk.size,fun y hy hc=>hk.block y hy (fun e=>hc (by rw [e];exact h.cm))⟩;exact⟨h.wk.kc hkc (by omega),by unfold jk;rw [hk.block sb (aA h.bk) hne];exact h.bk,hs,h.cs,h.cm⟩
theorem ara {w:World} {mb k:Nat} {l:List Int} (h:eu w mb k l) (hl:l.Nodup) (d:Nat) (os:Array Obj) (ty:TypeId):(Builtin.len_ #[259] ty #[.map (some mb)]).run Tryz.prog (Sort.grow (redrawn w d) os)= .ok (.int .i64 l.length) (Sort.grow (redrawn w d) os):=
 (h.kept ((below_regrown w d os).block mb h.lt)).len hl ty
theorem Jk (w0 w:World) (wb sb mb k:Nat) (n:Nd) (A:bE) (G:aU) (c:Nat→Nat) (v:Value) (L:List Mg) (m:Mg) (low:Int) (l:List Int) (hnd:l.Nodup) (hf:l.length=40) (h:mX w0 w wb sb mb k n A G c v L low l):Calls Tryz.prog 198 #[.pointer (some ⟨wb,0,none⟩),nX m,.pointer (some ⟨sb,0,none⟩)] w fun e w'=>e= .returned (.bool false)∧Below w.heap.size w w':=by
 have hq:((l.length:Int) == 40)=true:=by simp;omega
 have HW:=hide h;obtain⟨mK,mF,mT,mI,mL,mk,mN⟩:=m;skip
 open ae2 in exact al6
theorem Jl (w0 w:World) (wb sb mb k:Nat) (n:Nd) (A:bE) (G:aU) (c:Nat→Nat) (v:Value) (L:List Mg) (m:Mg) (low:Int) (l:List Int) (E:Nat→Addr) (hz:eH n 1048576) (hk:m.k.size≤1048576) (hi0:0≤m.I) (hi1:m.I≤1000000000) (hkk:k < 1000000) (hnd:l.Nodup) (hf:l.length < 40) (h:mX w0 w wb sb mb k n A G c v L low l) (he:gW w0 E):Calls Tryz.prog 198 #[.pointer (some ⟨wb,0,none⟩),nX m,.pointer (some ⟨sb,0,none⟩)] w fun e w'=>e= .returned (.bool (bV n.pu m.k 0 1 0 m.N).2)∧(∃A' G' c',mX w0 w' wb sb mb (k+1) (if (bV n.pu m.k 0 1 0 m.N).2=true then setPu n (bV n.pu m.k 0 1 0 m.N).1 else n) A' G' c' v L low (if (bV n.pu m.k 0 1 0 m.N).2=true then m.I::l else l))∧∀j o,j≠wb→j≠mb→w.heap[j]?=some o→w'.heap[j]?=some o:=by
 have hq:((l.length:Int) == 40)=false:=by simp;omega
 have Wy:=hide (fun w1 (hb:Below w.heap.size w w1)=>R6 A.p A.cp n.pu m.k m.N E w1 hz.p hz.pk hk (GR.At.below h.wk.no.p.at hb) (he.below (h.wk.keep.trans (hb.mono h.wk.keep.size))));unfold iP at Wy;clear hz hk he;have HW:=hide h;obtain⟨mK,mF,mT,mI,mL,mk,mN⟩:=m;dsimp only at *;generalize bV n.pu mk 0 1 0 mN=r at *;open ae1 in exact al6
set_option maxHeartbeats 2000000
theorem WK.seenPut {w0 w:World} {wb:Nat} {n:Nd} {A:bE} {G:aU} {c:Nat→Nat} {v:Value} {L:List Mg} (h:WK w0 w wb n A G c v L) (k:Nat) (hk:k < n.seen.length) (s:Sn) (b:Option Addr) (cc gi:Nat) (hi:GR.W aR 1 w b gi s.ids) (h5:∀x∈fp gi s.ids,c x=5∧x∉nM G.i n.seen):
 WK w0 (GR.setW w G.s (k*3) [.int .i64 s.f,.int .i64 s.l,.slice b s.ids.length cc]) wb (bY n (n.seen.set k s)) A ⟨G.k,G.p,G.o,G.s,G.r,ow G.i k gi⟩ c v L:=by
 have c4:c G.s=4:=h.no.c4 G.s (dz (by omega));have hkc:KC c 4 w (GR.setW w G.s (k*3) [.int .i64 s.f,.int .i64 s.l,.slice b s.ids.length cc]):=KC.setW _ c4;have hN:=h.no;have hlen:(n.seen.set k s).length=n.seen.length:=List.length_set ..
 have hci:∀x∈nM (ow G.i k gi) (n.seen.set k s),c x=5:=fun x hx=>by
  obtain⟨i,hi',rfl,hpos⟩:=uf hx
  unfold ow
  by_cases e:i=k
  ·subst e;rw [if_pos rfl];rw [List.getElem_set_self] at hpos;exact(h5 gi (dz hpos)).1
  ·rw [if_neg e];rw [List.getElem_set_ne (by omega)] at hpos;exact hN.ci _ (iL (by omega) _ (dz hpos))
 refine⟨hkc.below h.keep hN.lo (by omega) h.keep.size,?_,⟨hkc.w hN.k hN.ck (by omega),hkc.w hN.p hN.cp (by omega),hkc.own hN.o hN.co (by omega),?_,hkc.own hN.r hN.cr (by omega),hN.lo,hN.ck,hN.cp,hN.co,?_,hci,hN.cr,?_⟩,hkc.own h.m h.cm (by omega),h.cm,h.cw⟩
 ·have hb:=hkc.obj h.blk (by rw [h.cw];omega)
  have e:FE (bY n (n.seen.set k s)) A v=FE n A v:=by
   unfold FE bY;rw [hlen]
  rw [e];exact hb
 ·exact hN.s.store k hk s b cc gi hi (fun x hx e=>by have:=hN.ci x hx;rw [e,c4] at this;cases this) (fun x hx e=>by have:=(h5 x hx).1;rw [e,c4] at this;cases this)
 ·intro x hx;have h1:x=G.s:=(gD hx).1;rw [h1];exact c4
 ·show(nM (ow G.i k gi) (n.seen.set k s)).Nodup
  have hni:=(lZ G.i n.seen).1 hN.ni;rw [lZ];intro i j hi' hj' hij h1 h2;have hil:i < n.seen.length:=by omega
  have hjl:j < n.seen.length:=by omega
  unfold ow;by_cases ei:i=k
  ·subst ei;rw [if_pos rfl,if_neg (by omega)];rw [List.getElem_set_self] at h1;rw [List.getElem_set_ne (by omega)] at h2;exact fun e=>(h5 gi (dz h1)).2 (e▸iL hjl _ (dz h2))
  ·rw [if_neg ei];rw [List.getElem_set_ne (by omega)] at h1;by_cases ej:j=k
   ·subst ej;rw [if_pos rfl];rw [List.getElem_set_self] at h2;exact fun e=>(h5 gi (dz h2)).2 (e▸iL hil _ (dz h1))
   ·rw [if_neg ej];rw [List.getElem_set_ne (by omega)] at h2;exact hni i j hil hjl hij h1 h2
theorem abG (f lo:Int) (b:Option Addr) (q cc B:Nat) (m:Mg) (w:World) (hB:w.heap[B]?=some (.cells #[.int .i64 m.K,.int .i64 m.F,.int .i64 m.T,.int .i64 m.I,.int .i64 m.L,.string m.k,.int .i64 m.N] 32 (0,0))):
 Calls Tryz.prog 194 #[.agg #[.int .i64 f,.int .i64 lo,.slice b q cc],.pointer (some ⟨B,0,none⟩)] w fun e w'=>e= .returned (.bool (f == m.F))∧Below w.heap.size w w':=by
 have hBl:=aA hB;obtain⟨⟨p0,p1,p2,p3,p4,p5,p6⟩,_⟩:=gT hB;clear hB;obtain⟨mK,mF,mT,mI,mL,mk,mN⟩:=m;dsimp only at *;go_enter Tryz.func194,Tryz.ntmps194
 exact Vl
theorem VE (a:Option Addr) (cap:Nat) (l:List Sn) (B:Nat) (m:Mg) (w:World) (hl:l.length≤1000) (ha:jL w a l) (hB:w.heap[B]?=some (.cells #[.int .i64 m.K,.int .i64 m.F,.int .i64 m.T,.int .i64 m.I,.int .i64 m.L,.string m.k,.int .i64 m.N] 32 (0,0))) (hf:gF l m.F < l.length):
 Calls Tryz.prog 193 #[.slice a l.length cap,.func (.func 194) #[] #[.pointer (some ⟨B,0,none⟩)]] w fun e w'=>e= .returned (.int .i64 (gF l m.F:Nat))∧Below w.heap.size w w':=by
 have HC:=hide (fun f lo b q cc w1 (hb:Below w.heap.size w w1)=>abG f lo b q cc B m w1 (aj hB hb));have HA:=hide ha
 have HN:Hid (∀i (hi:i < l.length),i < gF l m.F→(l[i].f == m.F)=false):=fun i hi h=>by
  have:=List.not_of_lt_findIdx h
  simpa using this
 have HY:Hid (∀(hi:gF l m.F < l.length),(l[gF l m.F].f == m.F)=true):=fun hi=>by
  have:=List.findIdx_getElem (p:=fun t:Sn=>decide (t.f=m.F)) (w:=hi)
  exact beq_iff_eq.2 (of_decide_eq_true this)
 clear ha hB;generalize gF l m.F=R at *;go_enter Tryz.func193,Tryz.ntmps193
 go_wp2_with fail;go_loopw [8] (fun i wr=>∃k:Nat,k≤R∧i= .int .i64 k∧Below w.heap.size w wr) (fun i _=>l.length - (intOf i).toNat)
 case atStart=>exact L9
 case round=>
  obtain⟨k,hk,rfl,hbw⟩:=hrel;have HB:=hide hbw;have hkl:k < l.length:=by omega
  have aqx:(k:Int) < (l.length:Int):=by omega
  obtain⟨g,off,b,cc,e0,hg,q0,q1,q2,_⟩:=jL.below HA hbw k hkl;have HCk:=hide (HC l[k].f l[k].l b l[k].ids.length cc);have UF:=hide (HN k hkl)
  have HYk:Hid (k=R→(l[k].f == m.F)=true):=fun e=>by
   subst e
   exact HY hkl
  subst e0;clear hbw HC HN HY;generalize l[k]=sk at *;obtain⟨sf,sl,si⟩:=sk;dsimp only at q0 q1 q2 HCk UF HYk;by_cases hR:k=R
  ·have hq:=ah HYk hR;subst hR;open ahR in exact LJ
  ·have hq:=ah UF (by omega);open ahQ in exact LJ
end Go.Proofs.YtacgbldlonoaaaaGreatDoor
