/-
  NdOkS.
-/
import Derived.Test.YtppmcficiphgdaaGreatDoorQa4
import Derived.Test.YtppmcficiphgdaaGreatDoorQaZ3
namespace Go.Proofs.YtppmcficiphgdaaGreatDoor
set_option maxHeartbeats 8000000
set_option maxRecDepth 100000
open Go.RowKit
open Mth
theorem rIn (x a b:Int) (r:Bool) (wc:World) (hb:decide (a≤x∧x≤b)=r):∀d os,Calls Tryz.prog 48 #[.int .i64 x,.int .i64 a,.int .i64 b] (Sort.grow (redrawn wc d) os) fun e w''=>e= .returned (.bool r)∧∃p:Regrown,w''=Sort.grow (redrawn wc p.d) p.os:=fun _ _=>
 Calls.regrown_of ((l01InR x a b r _ hb).mono fun _ _ ⟨he,hw⟩=>⟨he,hw▸Below.refl _ _⟩)
theorem rKey (s:ByteArray) (b:Bool) (wc:World) (hs:s.size≤maxLen) (hb:keyOk s.data.toList=b):∀d os,Calls Tryz.prog 50 #[.string s] (Sort.grow (redrawn wc d) os) fun e w''=>e= .returned (.bool b)∧∃p:Regrown,w''=Sort.grow (redrawn wc p.d) p.os:=fun _ _=>
 Calls.regrown_of ((specKeyB s b _ hs hb).mono fun _ _ ⟨he,hw⟩=>⟨he,hw▸Below.refl _ _⟩)
theorem fourC {w:World} {g:Nat} {v0 v1 v2 v3:Value} {t:TypeId} (h:w.heap[g]?=some (.cells #[v0,v1,v2,v3] t (0,0))):
 w.cell? ⟨g,0,none⟩=some v0∧w.cell? ⟨g,1,none⟩=some v1∧w.cell? ⟨g,2,none⟩=some v2∧w.cell? ⟨g,3,none⟩=some v3:=by
 have hc:∀i,w.cell? ⟨g,i,none⟩=#[v0,v1,v2,v3][i]?:=fun i=>cell_of_row w g i _ t (0,0) h
 exact⟨hc 0,hc 1,hc 2,hc 3⟩
theorem l01AmB (x:Int) (b:Bool) (w:World) (h:amB x=b):Calls Tryz.prog 47 #[.int .i64 x] w fun e w'=>e= .returned (.bool b)∧w=w':=by
 rw [←h];exact l01Amount x w
theorem Mth.ndOk_head (n:Nd):ndOk n=((placeB n&&psOk n.pu&&toldB n&&smB n.next&&decide (n.out.length≤40)&&amB n.old&&decide (n.reqs.length≤30))&&(chk (outB n) (fun s t=>ltB s.i t.i) n.out&&chk (reqB n) (fun s t=>ltB s.no t.no) n.reqs)):=by
 unfold ndOk outsB reqsB;cases placeB n<;>cases psOk n.pu<;>cases toldB n<;>cases smB n.next<;>cases decide (n.out.length≤40)<;>cases amB n.old<;>cases decide (n.reqs.length≤30)<;>simp
theorem specNodeOk (n:Nd) (A:Ads) (w:World) (hz:NdSz n 1048600) (ha:NodeAt w A n):
 Calls Tryz.prog 16 #[ndv n A] w fun e w'=>e= .returned (.bool (ndOk n))∧Below w.heap.size w w':=by
 have HA:=hide ha;have HZ:=hide hz;have HPL:=hide (fun w1 (hb:Below w.heap.size w w1)=>specPlace n A w1 hz.k (ha.below hb).k);have HPU:=hide (fun w1 (hb:Below w.heap.size w w1)=>specPursesOk A.p A.cp n.pu w1 hz.p (fun p hp=>Nat.le_trans (hz.pk p hp) (by unfold maxLen;omega)) (ha.below hb).p);have HTO:=hide (fun w1 (hb:Below w.heap.size w w1)=>specTold n A w1 hz.k hz.s hz.sk (ha.below hb).k (ha.below hb).s);have HNR:=hide (fun x b wc (hb:Below w.heap.size w wc) (h:nearB n x=b)=>rNear n A x b wc hz.k (ha.below hb).k h);have HOT:=hide (fun(s:Snt)=>show outB n s=(decide (1≤s.i∧s.i≤n.next - 1)&&nearB n s.t&&keyOk s.k.data.toList&&smB s.n) from rfl);have HRQ:=hide (fun(s:Rq)=>show reqB n s=(decide (n.old+1≤s.no∧s.no≤1000000000)&&keyOk s.k.data.toList&&smB s.n&&decide (0≤s.s∧s.s≤2)) from rfl);have HD:=hide (ndOk_head n);have HBX:=hide (heap_alloc_new w (.cells (ndc n A) 30));generalize placeB n=PL at *;generalize psOk n.pu=PS at *;generalize toldB n=TD at *;generalize outB n=OT at *;generalize reqB n=RQ at *;generalize nearB n=NN at *;generalize ndOk n=TT at *;open Sa110 in exact Ya26
end Go.Proofs.YtppmcficiphgdaaGreatDoor
