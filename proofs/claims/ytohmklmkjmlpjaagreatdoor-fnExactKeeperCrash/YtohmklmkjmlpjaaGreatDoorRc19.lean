/- Parts. -/
import Derived.Test.YtohmklmkjmlpjaaGreatDoorRc15
namespace Go.Proofs.YtohmklmkjmlpjaaGreatDoor
open Go.Proofs.Tryz
set_option maxHeartbeats 8000000
set_option maxRecDepth 100000
open Go.RowKit
open Mth
theorem rIn (x a b:Int) (r:Bool) (wc:World) (hb:decide (a<=x/\x<=b)=r):∀d os,Calls prog 18 #[.int .i64 x,.int .i64 a,.int .i64 b] (Sort.grow (redrawn wc d) os) λe w''=>e= .returned (.bool r)/\∃p:Regrown,w''=Sort.grow (redrawn wc p.d) p.os:=λ_ _=>
 aG6 ((yQ x a b r _ hb).mono λ_ _ ⟨he,hw⟩=>⟨he,hw▸aGs _ _⟩)
theorem afY (s:ByteArray) (b:Bool) (wc:World) (hs:s.size<=maxLen) (hb:keyOk s.data.toList=b):∀d os,Calls prog 52 #[.string s] (Sort.grow (redrawn wc d) os) λe w''=>e= .returned (.bool b)/\∃p:Regrown,w''=Sort.grow (redrawn wc p.d) p.os:=λ_ _=>
 aG6 ((oJ s b _ hs hb).mono λ_ _ ⟨he,hw⟩=>⟨he,hw▸aGs _ _⟩)
theorem iO {w:World} {g:Nat} {v0 v1 v2 v3:Value} {t:TypeId} (h:w.heap[g]?=some (.cells #[v0,v1,v2,v3] t (0,0))):
 w.cell? ⟨g,0,none⟩=some v0/\w.cell? ⟨g,1,none⟩=some v1/\w.cell? ⟨g,2,none⟩=some v2/\w.cell? ⟨g,3,none⟩=some v3:=by
 have hc:∀i,w.cell? ⟨g,i,none⟩=#[v0,v1,v2,v3][i]?:=λi=>aGu w g i _ t (0,0) h
 exact⟨hc 0,hc 1,hc 2,hc 3⟩
theorem ac4 (x:Int) (b:Bool) (w:World) (h:rz x=b):Calls prog 50 #[.int .i64 x] w λe w'=>e= .returned (.bool b)/\w=w':=by
 rw [<-h];exact xC x w
theorem Mth.ndOk_head (n:Nd):eH n=((eO n&&jD n.pu&&oL n&&fO n.next&&decide (n.out.length<=40)&&rz n.old&&decide (n.reqs.length<=30))&&(iA (vW n) (λs t=>iX s.i t.i) n.out&&iA (tN n) (λs t=>iX s.no t.no) n.reqs)):=by
 unfold eH tC iC;cases eO n<;>cases jD n.pu<;>cases oL n<;>cases fO n.next<;>cases decide (n.out.length<=40)<;>cases rz n.old<;>cases decide (n.reqs.length<=30)<;>simp
theorem zl (n:Nd) (A:bV) (w:World) (hz:eG n 1048600) (ha:dD w A n):
 Calls prog 17 #[gP n A] w (dZ w (.bool (eH n))):=by
 have HA:=Hq ha;have HZ:=Hq hz;have Om:=Hq (λw1 (hb:aI w w1)=>ZA n A w1 hz.k (ha.below hb).k);have HPU:=Hq (λw1 (hb:aI w w1)=>qc A.p A.cp n.pu w1 hz.p (λp hp=>aGm (hz.pk p hp) Aai) (ha.below hb).p);have Oq:=Hq (λw1 (hb:aI w w1)=>adU n A w1 hz.k hz.s hz.sk (ha.below hb).k (ha.below hb).s);have Sl:=Hq (λx b wc (hb:aI w wc) (h:eD n x=b)=>aj3 n A x b wc hz.k (ha.below hb).k h);have HOT:=Hq (fun(s:jM)=>show vW n s=(decide (1<=s.i/\s.i<=n.next - 1)&&eD n s.t&&keyOk s.k.data.toList&&fO s.n) from rfl);have OL:=Hq (fun(s:Rq)=>show tN n s=(decide (n.old+1<=s.no/\s.no<=1000000000)&&keyOk s.k.data.toList&&fO s.n&&decide (0<=s.s/\s.s<=2)) from rfl);have HD:=Hq (ndOk_head n);have kJ:=Hq (aGg w (.cells (dG n A) 40));generalize eO n=PL at *;generalize jD n.pu=PS at *;generalize oL n=TD at *;generalize vW n=OT at *;generalize tN n=RQ at *;generalize eD n=NN at *;generalize eH n=TT at *;open apq in exact vU
end Go.Proofs.YtohmklmkjmlpjaaGreatDoor
