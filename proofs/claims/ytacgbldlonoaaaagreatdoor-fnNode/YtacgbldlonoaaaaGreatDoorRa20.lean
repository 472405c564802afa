/- Parts. -/
import Derived.Test.YtacgbldlonoaaaaGreatDoorRa19
namespace Go.Proofs.YtacgbldlonoaaaaGreatDoor
set_option maxHeartbeats 8000000
set_option maxRecDepth 100000
open Go.RowKit
open Mth
theorem Mw {w0 w x:World} {wb:Nat} {n:Nd} {A:bE} {G:aU} {c:Nat→Nat} {v:Value} {L:List Mg} (h:WK w0 w wb n A G c v L) {r:List Pu×Bool} {a:Option Addr} {cp g:Nat} (hb:Below w.heap.size w x) (hg:w.heap.size≤g) (hp:rU x a g r.1):
 Calls Tryz.prog 162 #[.pointer (some ⟨wb,0,none⟩),.slice a r.1.length cp,.bool r.2] x fun e w'=>e= .returned (.bool r.2)∧∃A' G' c',WK w0 w' wb (if r.2=true then setPu n r.1 else n) A' G' c' v L∧(∀k o,k≠wb→x.heap[k]?=some o→w'.heap[k]?=some o)∧∀k,k < w.heap.size→c' k=c k:=by
 obtain⟨l,b⟩:=r;cases b with
 |false=>
  refine(xE wb a l.length cp x).mono ?_
  rintro e w' ⟨rfl,rfl⟩
  exact⟨rfl,A,G,c,h.step hb,fun _ _ _ h=>h,fun _ _=>rfl⟩
 |true=>
  refine(uq wb n A v a l.length cp x (h.step hb).blk).mono ?_
  rintro e w' ⟨rfl,rfl⟩
  exact⟨rfl,_,_,_,h.setPu hb hp (fun y hy=>by rw [(gD hy).1];exact hg),fun k o hk ho=>by rw [Below.heap_setCell _ _ _ _ hk];exact ho,fun k hk=>dH hk⟩
theorem aob {w:World} {g:Nat} {a b d e u:Value} {t:TypeId} (h:w.heap[g]?=some (.cells #[a,b,d,e] t (0,0))):(w.setCell ⟨g,3,none⟩ u).heap[g]?=some (.cells #[a,b,d,u] t (0,0)):=bg h 3 u
theorem Jj (w0 w:World) (wb:Nat) (n:Nd) (A:bE) (G:aU) (c:Nat→Nat) (v:Value) (L:List Mg) (o:jE) (hc:o.no≤n.old) (h:WK w0 w wb n A G c v L):Calls Tryz.prog 108 #[.pointer (some ⟨wb,0,none⟩),jH o] w fun e w'=>e= .returned (.int .i64 (eP n o.no o.k o.n).2)∧∃A' G' c',WK w0 w' wb (eP n o.no o.k o.n).1 A' G' c' v L:=by
 have hR:eP n o.no o.k o.n=(n,2):=if_pos hc;rw [hR];have hd:decide (o.no≤n.old)=true:=decide_eq_true hc;clear hR;open ao0 in exact Ya7
theorem OV (w0 w:World) (wb:Nat) (n:Nd) (A:bE) (G:aU) (c:Nat→Nat) (v:Value) (L:List Mg) (o:jE) (E:Nat→Addr) (hz:eH n 1048576) (hok:fQ n=true) (hk:o.k.size≤1048576) (h0:0≤o.no) (h1:o.no≤1000000000) (hc:¬o.no≤n.old) (hf:kK n.reqs o.no=false) (h:WK w0 w wb n A G c v L) (he:gW w0 E):Calls Tryz.prog 108 #[.pointer (some ⟨wb,0,none⟩),jH o] w fun e w'=>e= .returned (.int .i64 (eP n o.no o.k o.n).2)∧∃A' G' c',WK w0 w' wb (eP n o.no o.k o.n).1 A' G' c' v L:=by
 have hR:eP n o.no o.k o.n=(jO (setPu n (bV n.pu o.k 0 (-1) 1 o.n).1) ⟨o.no,o.k,o.n,if (bV n.pu o.k 0 (-1) 1 o.n).2=true then 0 else 1⟩,if (bV n.pu o.k 0 (-1) 1 o.n).2=true then 0 else 1):=by
  unfold eP;rw [if_neg hc,if_neg (by rw [hf];simp)]
 have HAD:=hide hR;generalize eP n o.no o.k o.n=RES at *;have hd:decide (o.no≤n.old)=false:=decide_eq_false hc;have qB:=hide (fun w1 c1 (hw:WK w0 w1 wb n A G c1 v L)=>Fq w0 w1 wb n A G c1 v L o.no hok h0 h1 hw);rw [hf] at qB;have hlen:=(gQ hok).2.1;have hil:=rO n.reqs o.no;have UQ:=hide (show(bV n.pu o.k 0 (-1) 1 o.n).2=false→(bV n.pu o.k 0 (-1) 1 o.n).1=n.pu from CU);have HKI:=hide (fun(l:List Pu) s=>zO (setPu n l) ⟨o.no,o.k,o.n,s⟩);have HKN:=hide (fun s=>zO n ⟨o.no,o.k,o.n,s⟩);dsimp only[setPu] at HKI;dsimp only at HKN;have M8:=hide (fun w1 c1 (hw:WK w0 w1 wb n A G c1 v L)=>Oh A.p A.cp n.pu o.k o.n E w1 hz.p hz.pk hk hw.no.p.at (he.below hw.keep));unfold iP at M8;generalize bV n.pu o.k 0 (-1) 1 o.n=r at *;generalize dx n.reqs o.no=i at *;clear hR h0 h1 hok hf he hz;open aoZ in exact Ya7
theorem ap9 (no:Int) (k k':ByteArray) (n n' s s':Int) (W:World):(binOp .eql 97 (.agg #[.int .i64 no,.string k,.int .i64 n,.int .i64 s]) (.agg #[.int .i64 no,.string k',.int .i64 n',.int .i64 s'])).run Tryz.prog W= .ok (.bool ((k.toList == k'.toList)&&decide (n=n')&&decide (s=s'))) W:=by
 by_cases h1:k.toList == k'.toList<;>by_cases h2:n=n'<;>by_cases h3:s=s'<;>simp[go_sem,h1,h2,h3]
theorem Ji (w0 w:World) (wb:Nat) (n:Nd) (A:bE) (G:aU) (c:Nat→Nat) (v:Value) (L:List Mg) (o:jE) (hok:fQ n=true) (hk:o.k.size≤1048576) (h0:0≤o.no) (h1:o.no≤1000000000) (hc:¬o.no≤n.old) (hf:kK n.reqs o.no=true) (h:WK w0 w wb n A G c v L):Calls Tryz.prog 108 #[.pointer (some ⟨wb,0,none⟩),jH o] w fun e w'=>e= .returned (.int .i64 (eP n o.no o.k o.n).2)∧∃A' G' c',WK w0 w' wb (eP n o.no o.k o.n).1 A' G' c' v L:=by
 open aiz in exact Qr
theorem Wj (w0 w:World) (wb:Nat) (n:Nd) (A:bE) (G:aU) (c:Nat→Nat) (v:Value) (L:List Mg) (o:jE) (E:Nat→Addr) (hz:eH n 1048576) (hok:fQ n=true) (hk:o.k.size≤1048576) (h0:0≤o.no) (h1:o.no≤1000000000) (h:WK w0 w wb n A G c v L) (he:gW w0 E):Calls Tryz.prog 108 #[.pointer (some ⟨wb,0,none⟩),jH o] w fun e w'=>e= .returned (.int .i64 (eP n o.no o.k o.n).2)∧∃A' G' c',WK w0 w' wb (eP n o.no o.k o.n).1 A' G' c' v L:=by
 by_cases hc:o.no≤n.old
 ·exact Jj w0 w wb n A G c v L o hc h
 cases hf:kK n.reqs o.no with
 |false=>exact OV w0 w wb n A G c v L o E hz hok hk h0 h1 hc hf h he
 |true=>exact Ji w0 w wb n A G c v L o hok hk h0 h1 hc hf h
end Go.Proofs.YtacgbldlonoaaaaGreatDoor
