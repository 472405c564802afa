/-
  NdAdm.
-/
import Derived.Test.YtppmcficiphgdaaGreatDoorQa1
import Derived.Test.YtppmcficiphgdaaGreatDoorQa18
import Derived.Test.YtppmcficiphgdaaGreatDoorQa14
import Derived.Test.YtppmcficiphgdaaGreatDoorQaZ3
namespace Go.Proofs.YtppmcficiphgdaaGreatDoor
set_option maxHeartbeats 8000000
set_option maxRecDepth 100000
open Go.RowKit
open Mth
theorem settleK {w0 w x:World} {wb:Nat} {n:Nd} {A:Ads} {G:Blks} {c:Nat→Nat} {v:Value} {L:List Mg} (h:WK w0 w wb n A G c v L) {r:List Pu×Bool} {a:Option Addr} {cp g:Nat} (hb:Below w.heap.size w x) (hg:w.heap.size≤g) (hp:PuW x a g r.1):
 Calls Tryz.prog 158 #[.pointer (some ⟨wb,0,none⟩),.slice a r.1.length cp,.bool r.2] x fun e w'=>e= .returned (.bool r.2)∧∃A' G' c',WK w0 w' wb (if r.2=true then setPu n r.1 else n) A' G' c' v L∧(∀k o,k≠wb→x.heap[k]?=some o→w'.heap[k]?=some o)∧∀k,k < w.heap.size→c' k=c k:=by
 obtain⟨l,b⟩:=r;cases b with
 |false=>
  refine(settle_no wb a l.length cp x).mono ?_
  rintro e w' ⟨rfl,rfl⟩
  exact⟨rfl,A,G,c,h.step hb,fun _ _ _ h=>h,fun _ _=>rfl⟩
 |true=>
  refine(settle_yes wb n A v a l.length cp x (h.step hb).blk).mono ?_
  rintro e w' ⟨rfl,rfl⟩
  exact⟨rfl,_,_,_,h.setPu hb hp (fun y hy=>by rw [(of_fp hy).1];exact hg),fun k o hk ho=>by rw [Below.heap_setCell _ _ _ _ hk];exact ho,fun k hk=>newC_old hk⟩
theorem addP_kept {l:List Pu} {key:ByteArray} {dm df ds n:Int} (h:(addP l key dm df ds n).2=false):(addP l key dm df ds n).1=l:=by
 exact Za121
theorem setB4 {w:World} {g:Nat} {a b d e u:Value} {t:TypeId} (h:w.heap[g]?=some (.cells #[a,b,d,e] t (0,0))):(w.setCell ⟨g,3,none⟩ u).heap[g]?=some (.cells #[a,b,d,u] t (0,0)):=blk_setO h 3 u
theorem wkAdm_stale (w0 w:World) (wb:Nat) (n:Nd) (A:Ads) (G:Blks) (c:Nat→Nat) (v:Value) (L:List Mg) (o:Op5) (hc:o.no≤n.old) (h:WK w0 w wb n A G c v L):Calls Tryz.prog 107 #[.pointer (some ⟨wb,0,none⟩),opw o] w fun e w'=>e= .returned (.int .i64 (admitN n o.no o.k o.n).2)∧∃A' G' c',WK w0 w' wb (admitN n o.no o.k o.n).1 A' G' c' v L:=by
 have hR:admitN n o.no o.k o.n=(n,2):=if_pos hc;rw [hR];have hd:decide (o.no≤n.old)=true:=decide_eq_true hc;clear hR;open Sa15 in exact Ya2
theorem wkAdm_new (w0 w:World) (wb:Nat) (n:Nd) (A:Ads) (G:Blks) (c:Nat→Nat) (v:Value) (L:List Mg) (o:Op5) (E:Nat→Addr) (hz:NdSz n 1048576) (hok:reqsB n=true) (hk:o.k.size≤1048576) (h0:0≤o.no) (h1:o.no≤1000000000) (hc:¬o.no≤n.old) (hf:reqF n.reqs o.no=false) (h:WK w0 w wb n A G c v L) (he:Errs w0 E):Calls Tryz.prog 107 #[.pointer (some ⟨wb,0,none⟩),opw o] w fun e w'=>e= .returned (.int .i64 (admitN n o.no o.k o.n).2)∧∃A' G' c',WK w0 w' wb (admitN n o.no o.k o.n).1 A' G' c' v L:=by
 have hR:admitN n o.no o.k o.n=(keepN (setPu n (addP n.pu o.k 0 (-1) 1 o.n).1) ⟨o.no,o.k,o.n,if (addP n.pu o.k 0 (-1) 1 o.n).2=true then 0 else 1⟩,if (addP n.pu o.k 0 (-1) 1 o.n).2=true then 0 else 1):=by
  unfold admitN;rw [if_neg hc,if_neg (by rw [hf];simp)]
 have HAD:=hide hR;generalize admitN n o.no o.k o.n=RES at *;have hd:decide (o.no≤n.old)=false:=decide_eq_false hc;have HRA:=hide (fun w1 c1 (hw:WK w0 w1 wb n A G c1 v L)=>wkReqAt w0 w1 wb n A G c1 v L o.no hok h0 h1 hw);rw [hf] at HRA;have hlen:=(reqs_asc hok).2.1;have hil:=reqI_le n.reqs o.no;have HRL:=hide (show(addP n.pu o.k 0 (-1) 1 o.n).2=false→(addP n.pu o.k 0 (-1) 1 o.n).1=n.pu from addP_kept);have HKI:=hide (fun(l:List Pu) s=>keepI_insQ (setPu n l) ⟨o.no,o.k,o.n,s⟩);have HKN:=hide (fun s=>keepI_insQ n ⟨o.no,o.k,o.n,s⟩);dsimp only[setPu] at HKI;dsimp only at HKN;have HSP:=hide (fun w1 c1 (hw:WK w0 w1 wb n A G c1 v L)=>implSpend A.p A.cp n.pu o.k o.n E w1 hz.p hz.pk hk hw.no.p.at (he.below hw.keep));unfold GivesP at HSP;generalize addP n.pu o.k 0 (-1) 1 o.n=r at *;generalize reqI n.reqs o.no=i at *;clear hR h0 h1 hok hf he hz;open Sa14 in exact Ya2
theorem eqRq (no:Int) (k k':ByteArray) (n n' s s':Int) (W:World):(binOp .eql 49 (.agg #[.int .i64 no,.string k,.int .i64 n,.int .i64 s]) (.agg #[.int .i64 no,.string k',.int .i64 n',.int .i64 s'])).run Tryz.prog W= .ok (.bool ((k.toList == k'.toList)&&decide (n=n')&&decide (s=s'))) W:=by
 by_cases h1:k.toList == k'.toList<;>by_cases h2:n=n'<;>by_cases h3:s=s'<;>simp[go_sem,h1,h2,h3]
theorem wkAdm_found (w0 w:World) (wb:Nat) (n:Nd) (A:Ads) (G:Blks) (c:Nat→Nat) (v:Value) (L:List Mg) (o:Op5) (hok:reqsB n=true) (hk:o.k.size≤1048576) (h0:0≤o.no) (h1:o.no≤1000000000) (hc:¬o.no≤n.old) (hf:reqF n.reqs o.no=true) (h:WK w0 w wb n A G c v L):Calls Tryz.prog 107 #[.pointer (some ⟨wb,0,none⟩),opw o] w fun e w'=>e= .returned (.int .i64 (admitN n o.no o.k o.n).2)∧∃A' G' c',WK w0 w' wb (admitN n o.no o.k o.n).1 A' G' c' v L:=by
 open Sa220 in exact Ya55
theorem wkAdmit (w0 w:World) (wb:Nat) (n:Nd) (A:Ads) (G:Blks) (c:Nat→Nat) (v:Value) (L:List Mg) (o:Op5) (E:Nat→Addr) (hz:NdSz n 1048576) (hok:reqsB n=true) (hk:o.k.size≤1048576) (h0:0≤o.no) (h1:o.no≤1000000000) (h:WK w0 w wb n A G c v L) (he:Errs w0 E):Calls Tryz.prog 107 #[.pointer (some ⟨wb,0,none⟩),opw o] w fun e w'=>e= .returned (.int .i64 (admitN n o.no o.k o.n).2)∧∃A' G' c',WK w0 w' wb (admitN n o.no o.k o.n).1 A' G' c' v L:=by
 by_cases hc:o.no≤n.old
 ·exact wkAdm_stale w0 w wb n A G c v L o hc h
 cases hf:reqF n.reqs o.no with
 |false=>exact wkAdm_new w0 w wb n A G c v L o E hz hok hk h0 h1 hc hf h he
 |true=>exact wkAdm_found w0 w wb n A G c v L o hok hk h0 h1 hc hf h
end Go.Proofs.YtppmcficiphgdaaGreatDoor
