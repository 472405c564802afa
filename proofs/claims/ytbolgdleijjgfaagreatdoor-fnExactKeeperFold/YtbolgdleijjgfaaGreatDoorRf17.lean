/- Parts. -/
import Derived.Test.YtbolgdleijjgfaaGreatDoorRf16
namespace Go.Proofs.YtbolgdleijjgfaaGreatDoor
open Go.Proofs.Tryz
set_option maxHeartbeats 8000000
set_option maxRecDepth 100000
open Go.RowKit
open Mth
theorem rIn (x a b:Int) (r:Bool) (wc:World) (hb:decide (a<=x/\x<=b)=r):∀d os,Calls prog 47 #[.int .i64 x,.int .i64 a,.int .i64 b] (Sort.grow (redrawn wc d) os) λe w''=>e= .returned (.bool r)/\∃p:Regrown,w''=Sort.grow (redrawn wc p.d) p.os:=λ_ _=>
 aFr ((zf x a b r _ hb).mono λ_ _ ⟨he,hw⟩=>⟨he,hw▸aE3 _ _⟩)
theorem afE (s:ByteArray) (b:Bool) (wc:World) (hs:s.size<=maxLen) (hb:keyOk s.data.toList=b):∀d os,Calls prog 93 #[.string s] (Sort.grow (redrawn wc d) os) λe w''=>e= .returned (.bool b)/\∃p:Regrown,w''=Sort.grow (redrawn wc p.d) p.os:=λ_ _=>
 aFr ((oW s b _ hs hb).mono λ_ _ ⟨he,hw⟩=>⟨he,hw▸aE3 _ _⟩)
theorem iI {w:World} {g:Nat} {v0 v1 v2 v3:Value} {t:TypeId} (h:w.heap[g]?=some (.cells #[v0,v1,v2,v3] t (0,0))):
 w.cell? ⟨g,0,none⟩=some v0/\w.cell? ⟨g,1,none⟩=some v1/\w.cell? ⟨g,2,none⟩=some v2/\w.cell? ⟨g,3,none⟩=some v3:=by
 have hc:∀i,w.cell? ⟨g,i,none⟩=#[v0,v1,v2,v3][i]?:=λi=>aE1 w g i _ t (0,0) h
 exact⟨hc 0,hc 1,hc 2,hc 3⟩
theorem acE (x:Int) (b:Bool) (w:World) (h:rM x=b):Calls prog 91 #[.int .i64 x] w λe w'=>e= .returned (.bool b)/\w=w':=by
 rw [<-h];exact xM x w
theorem Mth.ndOk_head (n:Nd):dV n=((eD n&&jv n.pu&&oZ n&&fJ n.next&&decide (n.out.length<=40)&&rM n.old&&decide (n.reqs.length<=30))&&(ig (wU n) (λs t=>iR s.i t.i) n.out&&ig (tY n) (λs t=>iR s.no t.no) n.reqs)):=by
 unfold dV tJ iw;cases eD n<;>cases jv n.pu<;>cases oZ n<;>cases fJ n.next<;>cases decide (n.out.length<=40)<;>cases rM n.old<;>cases decide (n.reqs.length<=30)<;>simp
theorem ru (n:Nd) (A:bq) (w:World) (hz:eG n 1048600) (ha:cK w A n):
 Calls prog 46 #[gU n A] w (dU w (.bool (dV n))):=by
 have HA:=Hq ha;have HZ:=Hq hz;have Oc:=Hq (λw1 (hb:aH w w1)=>ZE n A w1 hz.k (ha.below hb).k);have HPU:=Hq (λw1 (hb:aH w w1)=>qx A.p A.cp n.pu w1 hz.p (λp hp=>aEU (hz.pk p hp) Aaj) (ha.below hb).p);have Og:=Hq (λw1 (hb:aH w w1)=>ady n A w1 hz.k hz.s hz.sk (ha.below hb).k (ha.below hb).s);have R6:=Hq (λx b wc (hb:aH w wc) (h:dY n x=b)=>ajf n A x b wc hz.k (ha.below hb).k h);have HOT:=Hq (fun(s:jI)=>show wU n s=(decide (1<=s.i/\s.i<=n.next - 1)&&dY n s.t&&keyOk s.k.data.toList&&fJ s.n) from rfl);have OD:=Hq (fun(s:Rq)=>show tY n s=(decide (n.old+1<=s.no/\s.no<=1000000000)&&keyOk s.k.data.toList&&fJ s.n&&decide (0<=s.s/\s.s<=2)) from rfl);have HD:=Hq (ndOk_head n);have jO:=Hq (aEP w (.cells (dD n A) 39));generalize eD n=PL at *;generalize jv n.pu=PS at *;generalize oZ n=TD at *;generalize wU n=OT at *;generalize tY n=RQ at *;generalize dY n=NN at *;generalize dV n=TT at *;open anW in exact vY
end Go.Proofs.YtbolgdleijjgfaaGreatDoor
