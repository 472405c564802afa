/- Parts. -/
import Derived.Test.YtacgbldlonoaaaaGreatDoorRa3
namespace Go.Proofs.YtacgbldlonoaaaaGreatDoor
set_option maxHeartbeats 8000000
set_option maxRecDepth 100000
open Go.RowKit
open Mth
theorem rIn (x a b:Int) (r:Bool) (wc:World) (hb:decide (a≤x∧x≤b)=r):∀d os,Calls Tryz.prog 63 #[.int .i64 x,.int .i64 a,.int .i64 b] (Sort.grow (redrawn wc d) os) fun e w''=>e= .returned (.bool r)∧∃p:Regrown,w''=Sort.grow (redrawn wc p.d) p.os:=fun _ _=>
 Calls.regrown_of ((pz x a b r _ hb).mono fun _ _ ⟨he,hw⟩=>⟨he,hw▸Below.refl _ _⟩)
theorem VW (s:ByteArray) (b:Bool) (wc:World) (hs:s.size≤maxLen) (hb:keyOk s.data.toList=b):∀d os,Calls Tryz.prog 64 #[.string s] (Sort.grow (redrawn wc d) os) fun e w''=>e= .returned (.bool b)∧∃p:Regrown,w''=Sort.grow (redrawn wc p.d) p.os:=fun _ _=>
 Calls.regrown_of ((jS s b _ hs hb).mono fun _ _ ⟨he,hw⟩=>⟨he,hw▸Below.refl _ _⟩)
theorem eY {w:World} {g:Nat} {v0 v1 v2 v3:Value} {t:TypeId} (h:w.heap[g]?=some (.cells #[v0,v1,v2,v3] t (0,0))):
 w.cell? ⟨g,0,none⟩=some v0∧w.cell? ⟨g,1,none⟩=some v1∧w.cell? ⟨g,2,none⟩=some v2∧w.cell? ⟨g,3,none⟩=some v3:=by
 have hc:∀i,w.cell? ⟨g,i,none⟩=#[v0,v1,v2,v3][i]?:=fun i=>cell_of_row w g i _ t (0,0) h
 exact⟨hc 0,hc 1,hc 2,hc 3⟩
theorem Sv (x:Int) (b:Bool) (w:World) (h:mW x=b):Calls Tryz.prog 62 #[.int .i64 x] w fun e w'=>e= .returned (.bool b)∧w=w':=by
 rw [←h];exact rJ x w
theorem Mth.ndOk_head (n:Nd):dG n=((bQ n&&ig n.pu&&lC n&&eD n.next&&decide (n.out.length≤40)&&mW n.old&&decide (n.reqs.length≤30))&&(fT (qy n) (fun s t=>gJ s.i t.i) n.out&&fT (oo n) (fun s t=>gJ s.no t.no) n.reqs)):=by
 unfold dG nZ fQ;cases bQ n<;>cases ig n.pu<;>cases lC n<;>cases eD n.next<;>cases decide (n.out.length≤40)<;>cases mW n.old<;>cases decide (n.reqs.length≤30)<;>simp
theorem Ar (n:Nd) (A:bE) (w:World) (hz:eH n 1048600) (ha:dQ w A n):
 Calls Tryz.prog 19 #[gu n A] w fun e w'=>e= .returned (.bool (dG n))∧Below w.heap.size w w':=by
 have HA:=hide ha;have HZ:=hide hz;have FX:=hide (fun w1 (hb:Below w.heap.size w w1)=>OP n A w1 hz.k (ha.below hb).k);have HPU:=hide (fun w1 (hb:Below w.heap.size w w1)=>lW A.p A.cp n.pu w1 hz.p (fun p hp=>Nat.le_trans (hz.pk p hp) (by unfold maxLen;omega)) (ha.below hb).p);have HTO:=hide (fun w1 (hb:Below w.heap.size w w1)=>Tz n A w1 hz.k hz.s hz.sk (ha.below hb).k (ha.below hb).s);have Js:=hide (fun x b wc (hb:Below w.heap.size w wc) (h:dB n x=b)=>aag n A x b wc hz.k (ha.below hb).k h);have HOT:=hide (fun(s:jm)=>show qy n s=(decide (1≤s.i∧s.i≤n.next - 1)&&dB n s.t&&keyOk s.k.data.toList&&eD s.n) from rfl);have FZ:=hide (fun(s:Rq)=>show oo n s=(decide (n.old+1≤s.no∧s.no≤1000000000)&&keyOk s.k.data.toList&&eD s.n&&decide (0≤s.s∧s.s≤2)) from rfl);have HD:=hide (ndOk_head n);have jy:=hide (heap_alloc_new w (.cells (fZ n A) 30));generalize bQ n=PL at *;generalize ig n.pu=PS at *;generalize lC n=TD at *;generalize qy n=OT at *;generalize oo n=RQ at *;generalize dB n=NN at *;generalize dG n=TT at *;open af8 in exact wS
end Go.Proofs.YtacgbldlonoaaaaGreatDoor
