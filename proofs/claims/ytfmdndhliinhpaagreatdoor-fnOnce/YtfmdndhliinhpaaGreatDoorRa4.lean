/- Parts. -/
import Derived.Test.YtfmdndhliinhpaaGreatDoorRa3
namespace Go.Proofs.YtfmdndhliinhpaaGreatDoor
set_option maxHeartbeats 8000000
set_option maxRecDepth 100000
open Go.RowKit
open Mth
theorem rIn (x a b:Int) (r:Bool) (wc:World) (hb:decide (a≤x∧x≤b)=r):∀d os,Calls Tryz.prog 23 #[.int .i64 x,.int .i64 a,.int .i64 b] (Sort.grow (redrawn wc d) os) fun e w''=>e= .returned (.bool r)∧∃p:Regrown,w''=Sort.grow (redrawn wc p.d) p.os:=fun _ _=>
 Calls.regrown_of ((qC x a b r _ hb).mono fun _ _ ⟨he,hw⟩=>⟨he,hw▸Below.refl _ _⟩)
theorem YJ (s:ByteArray) (b:Bool) (wc:World) (hs:s.size≤maxLen) (hb:keyOk s.data.toList=b):∀d os,Calls Tryz.prog 25 #[.string s] (Sort.grow (redrawn wc d) os) fun e w''=>e= .returned (.bool b)∧∃p:Regrown,w''=Sort.grow (redrawn wc p.d) p.os:=fun _ _=>
 Calls.regrown_of ((lD s b _ hs hb).mono fun _ _ ⟨he,hw⟩=>⟨he,hw▸Below.refl _ _⟩)
theorem fC {w:World} {g:Nat} {v0 v1 v2 v3:Value} {t:TypeId} (h:w.heap[g]?=some (.cells #[v0,v1,v2,v3] t (0,0))):
 w.cell? ⟨g,0,none⟩=some v0∧w.cell? ⟨g,1,none⟩=some v1∧w.cell? ⟨g,2,none⟩=some v2∧w.cell? ⟨g,3,none⟩=some v3:=by
 have hc:∀i,w.cell? ⟨g,i,none⟩=#[v0,v1,v2,v3][i]?:=fun i=>cell_of_row w g i _ t (0,0) h
 exact⟨hc 0,hc 1,hc 2,hc 3⟩
theorem Vu (x:Int) (b:Bool) (w:World) (h:nS x=b):Calls Tryz.prog 22 #[.int .i64 x] w fun e w'=>e= .returned (.bool b)∧w=w':=by
 rw [←h];exact oZ x w
theorem Mth.ndOk_head (n:Nd):dJ n=((dx n&&iB n.pu&&mJ n&&eU n.next&&decide (n.out.length≤40)&&nS n.old&&decide (n.reqs.length≤30))&&(gH (rJ n) (fun s t=>gU s.i t.i) n.out&&gH (pR n) (fun s t=>gU s.no t.no) n.reqs)):=by
 unfold dJ pJ gF;cases dx n<;>cases iB n.pu<;>cases mJ n<;>cases eU n.next<;>cases decide (n.out.length≤40)<;>cases nS n.old<;>cases decide (n.reqs.length≤30)<;>simp
theorem vH (n:Nd) (A:bQ) (w:World) (hz:eF n 1048600) (ha:dQ w A n):
 Calls Tryz.prog 9 #[fU n A] w fun e w'=>e= .returned (.bool (dJ n))∧Below w.heap.size w w':=by
 have HA:=hide ha;have HZ:=hide hz;have Il:=hide (fun w1 (hb:Below w.heap.size w w1)=>QT n A w1 hz.k (ha.below hb).k);have WI:=hide (fun w1 (hb:Below w.heap.size w w1)=>jC A.p A.cp n.pu w1 hz.p (fun p hp=>Nat.le_trans (hz.pk p hp) (by unfold maxLen;omega)) (ha.below hb).p);have HTO:=hide (fun w1 (hb:Below w.heap.size w w1)=>Wl n A w1 hz.k hz.s hz.sk (ha.below hb).k (ha.below hb).s);have Hq:=hide (fun x b wc (hb:Below w.heap.size w wc) (h:dH n x=b)=>acH n A x b wc hz.k (ha.below hb).k h);have HOT:=hide (fun(s:jH)=>show rJ n s=(decide (1≤s.i∧s.i≤n.next - 1)&&dH n s.t&&keyOk s.k.data.toList&&eU s.n) from rfl);have Ip:=hide (fun(s:Rq)=>show pR n s=(decide (n.old+1≤s.no∧s.no≤1000000000)&&keyOk s.k.data.toList&&eU s.n&&decide (0≤s.s∧s.s≤2)) from rfl);have HD:=hide (ndOk_head n);have kR:=hide (heap_alloc_new w (.cells (fO n A) 30));generalize dx n=PL at *;generalize iB n.pu=PS at *;generalize mJ n=TD at *;generalize rJ n=OT at *;generalize pR n=RQ at *;generalize dH n=NN at *;generalize dJ n=TT at *;open ajl in exact yu
end Go.Proofs.YtfmdndhliinhpaaGreatDoor
