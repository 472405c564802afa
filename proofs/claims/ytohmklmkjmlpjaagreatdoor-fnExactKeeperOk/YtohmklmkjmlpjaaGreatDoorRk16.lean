/- Parts. -/
import Derived.Test.YtohmklmkjmlpjaaGreatDoorRk15
namespace Go.Proofs.YtohmklmkjmlpjaaGreatDoor
open Go.Proofs.Tryz
set_option maxHeartbeats 8000000
set_option maxRecDepth 100000
open Go.RowKit
open Mth
theorem rIn (x a b:Int) (r:Bool) (wc:World) (hb:decide (a<=x/\x<=b)=r):∀d os,Calls prog 18 #[.int .i64 x,.int .i64 a,.int .i64 b] (Sort.grow (redrawn wc d) os) λe w''=>e= .returned (.bool r)/\∃p:Regrown,w''=Sort.grow (redrawn wc p.d) p.os:=λ_ _=>
 Calls.regrown_of ((xY x a b r _ hb).mono λ_ _ ⟨he,hw⟩=>⟨he,hw▸Below.refl _ _⟩)
theorem aeW (s:ByteArray) (b:Bool) (wc:World) (hs:s.size<=maxLen) (hb:keyOk s.data.toList=b):∀d os,Calls prog 52 #[.string s] (Sort.grow (redrawn wc d) os) λe w''=>e= .returned (.bool b)/\∃p:Regrown,w''=Sort.grow (redrawn wc p.d) p.os:=λ_ _=>
 Calls.regrown_of ((nP s b _ hs hb).mono λ_ _ ⟨he,hw⟩=>⟨he,hw▸Below.refl _ _⟩)
theorem iE {w:World} {g:Nat} {v0 v1 v2 v3:Value} {t:TypeId} (h:w.heap[g]?=some (.cells #[v0,v1,v2,v3] t (0,0))):
 w.cell? ⟨g,0,none⟩=some v0/\w.cell? ⟨g,1,none⟩=some v1/\w.cell? ⟨g,2,none⟩=some v2/\w.cell? ⟨g,3,none⟩=some v3:=by
 have hc:∀i,w.cell? ⟨g,i,none⟩=#[v0,v1,v2,v3][i]?:=λi=>cell_of_row w g i _ t (0,0) h
 exact⟨hc 0,hc 1,hc 2,hc 3⟩
theorem ab0 (x:Int) (b:Bool) (w:World) (h:qw x=b):Calls prog 50 #[.int .i64 x] w λe w'=>e= .returned (.bool b)/\w=w':=by
 rw [<-h];exact wu x w
theorem Mth.ndOk_head (n:Nd):dW n=((eD n&&jk n.pu&&nQ n&&fF n.next&&decide (n.out.length<=40)&&qw n.old&&decide (n.reqs.length<=30))&&(gU (uQ n) (λs t=>iM s.i t.i) n.out&&gU (rU n) (λs t=>iM s.no t.no) n.reqs)):=by
 unfold dW rJ gX;cases eD n<;>cases jk n.pu<;>cases nQ n<;>cases fF n.next<;>cases decide (n.out.length<=40)<;>cases qw n.old<;>cases decide (n.reqs.length<=30)<;>simp
theorem qg (n:Nd) (A:bQ) (w:World) (hz:eU n 1048600) (ha:dw w A n):
 Calls prog 17 #[gB n A] w (eG w (.bool (dW n))):=by
 have HA:=Hq ha;have HZ:=Hq hz;have Nw:=Hq (λw1 (hb:aI w w1)=>Yf n A w1 hz.k (ha.below hb).k);have HPU:=Hq (λw1 (hb:aI w w1)=>oH A.p A.cp n.pu w1 hz.p (λp hp=>Nat.le_trans (hz.pk p hp) Aai) (ha.below hb).p);have Ni:=Hq (λw1 (hb:aI w w1)=>acR n A w1 hz.k hz.s hz.sk (ha.below hb).k (ha.below hb).s);have Ra:=Hq (λx b wc (hb:aI w wc) (h:dZ n x=b)=>aiX n A x b wc hz.k (ha.below hb).k h);have HOT:=Hq (fun(s:jK)=>show uQ n s=(decide (1<=s.i/\s.i<=n.next - 1)&&dZ n s.t&&keyOk s.k.data.toList&&fF s.n) from rfl);have Nz:=Hq (fun(s:Rq)=>show rU n s=(decide (n.old+1<=s.no/\s.no<=1000000000)&&keyOk s.k.data.toList&&fF s.n&&decide (0<=s.s/\s.s<=2)) from rfl);have HD:=Hq (ndOk_head n);have jN:=Hq (heap_alloc_new w (.cells (dG n A) 40));generalize eD n=PL at *;generalize jk n.pu=PS at *;generalize nQ n=TD at *;generalize uQ n=OT at *;generalize rU n=RQ at *;generalize dZ n=NN at *;generalize dW n=TT at *;open aot in exact wL
end Go.Proofs.YtohmklmkjmlpjaaGreatDoor
