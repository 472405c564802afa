/- Parts. -/
import Derived.Test.YtacgbldlonoaaaaGreatDoorRr14
namespace Go.Proofs.YtacgbldlonoaaaaGreatDoor
set_option maxHeartbeats 8000000
set_option maxRecDepth 100000
open Go.RowKit
open Mth
theorem cell_grown' {w:World} {a:Addr} {v:Value} (h:w.cell? a=some v):∀d os,(Sort.grow (redrawn w d) os).cell? a=some v:=λd os=>cell_regrown h d os
theorem aeQ (n:Nd) (A:bH) (x:Int) (b:Bool) (wc:World) (hl:n.kids.length<=1048600) (ha:eu wc A.k n.kids) (hb:dV n x=b):∀d os,Calls Tryz.prog 47 #[fI n A,.int .i64 x] (Sort.grow (redrawn wc d) os) λe w''=>e= .returned (.bool b)/\∃p:Regrown,w''=Sort.grow (redrawn wc p.d) p.os:=λd os=>by
 rw [<-hb];exact Calls.regrown_of (Eh n A x _ hl (GR.At.below ha (below_regrown wc d os)))
theorem Ie (x:Int) (b:Bool) (wc:World) (hb:fD x=b):∀d os,Calls Tryz.prog 61 #[.int .i64 x] (Sort.grow (redrawn wc d) os) λe w''=>e= .returned (.bool b)/\∃p:Regrown,w''=Sort.grow (redrawn wc p.d) p.os:=λ_ _=>
 Calls.regrown_of ((l04Some x b _ hb).mono λ_ _ ⟨he,hw⟩=>⟨he,hw▸Below.refl _ _⟩)
theorem qIn (x a b:Int) (r:Bool) (hb:decide (a<=x/\x<=b)=r) (W:World) (n:Nat):Calls Tryz.prog 63 #[.int .i64 x,.int .i64 a,.int .i64 b] (W.drewN n) λe w''=>e= .returned (.bool r)/\∃m,w''=W.drewN m:=
 (rW x a b r _ hb).mono λ_ _ ⟨he,hw⟩=>⟨he,n,hw.symm⟩
theorem three {w:World} {g:Nat} {v0 v1 v2:Value} {t:TypeId} (h:w.heap[g]?=some (.cells #[v0,v1,v2] t (0,0))):
 w.cell? ⟨g,0,none⟩=some v0/\w.cell? ⟨g,1,none⟩=some v1/\w.cell? ⟨g,2,none⟩=some v2:=by
 have hc:∀i,w.cell? ⟨g,i,none⟩=#[v0,v1,v2][i]?:=λi=>cell_of_row w g i _ t (0,0) h
 exact⟨hc 0,hc 1,hc 2⟩
theorem ZF (n:Nd) (A:bH) (w:World) (hl:n.kids.length<=1048600) (hl2:n.seen.length<=1048600) (hl3:∀s∈n.seen,s.ids.length<=1048600) (ha:eu w A.k n.kids) (hs:lu w A.s n.seen):
 Calls Tryz.prog 60 #[fI n A] w (eP w (.bool (nC n))):=by
 have HA:=Hq ha;have HS:=Hq hs;have QZ:=Hq hl3;have HD:Hid (nC n=(decide ((n.seen.length:Int)=n.kids.length+(if 0<=n.par then 1 else 0))&&gQ (λs=>dV n s.f&&uh s) (λs t=>iA s.f t.f) n.seen)):=rfl;have vM:=Hq (λk h=>nR (λs=>dV n s.f&&uh s) (λs t=>iA s.f t.f) n.seen k h);have Bd:=Hq (qE (λs=>dV n s.f&&uh s) (λs t=>iA s.f t.f) n.seen);have BX:=Hq (uo (λs=>dV n s.f&&uh s) (λs t=>iA s.f t.f) n.seen);have OY:=Hq (λx b wc (ha:eu wc A.k n.kids) (hb:dV n x=b)=>aeQ n A x b wc hl ha hb);have kE:=Hq (heap_alloc_new w (.cells (dH n A) 30));clear ha hs hl3;generalize hpp:(λs=>dV n s.f&&uh s)=PP at *;have HPP:Hid (∀s,PP s=(dV n s.f&&uh s)):=by intro s;rw [<-hpp]
 clear hpp;generalize hrr:(λs t:Sn=>iA s.f t.f)=RR at *;have HRR:Hid (∀s t,RR s t=iA s.f t.f):=by intro s t;rw [<-hrr]
 clear hrr;generalize hnn:dV n=NN at *;clear hnn;generalize htt:nC n=TT at *;clear htt;open akA in exact zB
theorem MK:(Tryz.prog.info? 90).map (λi=>(i.zero,i.size,i.bytes))=some (some (.agg #[.int .i64 0,.int .i64 0,.slice none 0 0]),3,40):=Aab
theorem bC {w:World} {c:Nat} {cs:Array Value} {t:TypeId} (h:w.heap[c]?=some (.cells cs t (0,0))) (i:Nat) (v:Value):(w.setCell ⟨c,i,none⟩ v).heap[c]?=some (.cells (cs.setIfInBounds i v) t (0,0)):=by
 exact aaO
theorem jU {w:World} {g g' i:Nat} {v:Value} {o:Option Obj} (h:w.heap[g']?=o) (hne:g'≠g):(w.setCell ⟨g,i,none⟩ v).heap[g']?=o:=by rw [Below.heap_setCell _ _ _ _ hne,h]
theorem I7 (w:World) (a b c:Obj):(((w.alloc a).alloc b).alloc c).heap[w.heap.size]?=some a/\(((w.alloc a).alloc b).alloc c).heap[w.heap.size+1]?=some b/\(((w.alloc a).alloc b).alloc c).heap[w.heap.size+1+1]?=some c/\Below w.heap.size w (((w.alloc a).alloc b).alloc c):=by
 have e1:(w.alloc a).heap.size=w.heap.size+1:=Aac
 have e2:((w.alloc a).alloc b).heap.size=w.heap.size+1+1:=Aac
 have h1:=heap_alloc_new w a;have h2:=heap_alloc_new (w.alloc a) b;have h3:=heap_alloc_new ((w.alloc a).alloc b) c;rw [e1] at h2;rw [e2] at h3;refine⟨?_,?_,h3,((aj w _).alloc Aac _).alloc Aag _⟩
 .rw [Below.heap_alloc _ _ _ (by rw [e2];omega),Below.heap_alloc _ _ _ (by rw [e1];omega)];exact h1
 .rw [Below.heap_alloc _ _ _ (by rw [e2];omega)];exact h2
theorem aN {P:Program} {fn:Func} {Q:Ending->World->Prop} {x:Exit} {act:Act} {W:World} (h:∀W',W'=W->bodyPost P fn Q x act W'):bodyPost P fn Q x act W:=h W rfl
abbrev Zn (w:World) (g:Nat) (T:List R3):Prop:=GR.Blk eG 90 w g T
theorem Zn.three {w:World} {g:Nat} {l:List R3} (h:Zn w g l) (i:Nat) (hi:i < l.length):w.cell? ⟨g,i*3,none⟩=some (.int .i64 l[i].f)/\w.cell? ⟨g,i*3+1,none⟩=some (.int .i64 l[i].l)/\w.cell? ⟨g,i*3+2,none⟩=some l[i].v:=
 ⟨by simpa using GR.Blk.cell h bZ i hi 0 Aaa,by simpa using GR.Blk.cell h bZ i hi 1 Aaa,by simpa using GR.Blk.cell h bZ i hi 2 Aaa⟩
theorem rIn (x a b:Int) (r:Bool) (wc:World) (hb:decide (a<=x/\x<=b)=r):∀d os,Calls Tryz.prog 63 #[.int .i64 x,.int .i64 a,.int .i64 b] (Sort.grow (redrawn wc d) os) λe w''=>e= .returned (.bool r)/\∃p:Regrown,w''=Sort.grow (redrawn wc p.d) p.os:=λ_ _=>
 Calls.regrown_of ((rW x a b r _ hb).mono λ_ _ ⟨he,hw⟩=>⟨he,hw▸Below.refl _ _⟩)
theorem abt (s:ByteArray) (b:Bool) (wc:World) (hs:s.size<=maxLen) (hb:keyOk s.data.toList=b):∀d os,Calls Tryz.prog 64 #[.string s] (Sort.grow (redrawn wc d) os) λe w''=>e= .returned (.bool b)/\∃p:Regrown,w''=Sort.grow (redrawn wc p.d) p.os:=λ_ _=>
 Calls.regrown_of ((lK s b _ hs hb).mono λ_ _ ⟨he,hw⟩=>⟨he,hw▸Below.refl _ _⟩)
theorem fQ {w:World} {g:Nat} {v0 v1 v2 v3:Value} {t:TypeId} (h:w.heap[g]?=some (.cells #[v0,v1,v2,v3] t (0,0))):
 w.cell? ⟨g,0,none⟩=some v0/\w.cell? ⟨g,1,none⟩=some v1/\w.cell? ⟨g,2,none⟩=some v2/\w.cell? ⟨g,3,none⟩=some v3:=by
 have hc:∀i,w.cell? ⟨g,i,none⟩=#[v0,v1,v2,v3][i]?:=λi=>cell_of_row w g i _ t (0,0) h
 exact⟨hc 0,hc 1,hc 2,hc 3⟩
theorem YR (x:Int) (b:Bool) (w:World) (h:pz x=b):Calls Tryz.prog 62 #[.int .i64 x] w λe w'=>e= .returned (.bool b)/\w=w':=by
 rw [<-h];exact l01Amount x w
theorem Mth.ndOk_head (n:Nd):dU n=((dZ n&&iW n.pu&&nC n&&fD n.next&&decide (n.out.length<=40)&&pz n.old&&decide (n.reqs.length<=30))&&(gQ (tX n) (λs t=>iA s.i t.i) n.out&&gQ (qU n) (λs t=>iA s.no t.no) n.reqs)):=by
 unfold dU qO gP;cases dZ n<;>cases iW n.pu<;>cases nC n<;>cases fD n.next<;>cases decide (n.out.length<=40)<;>cases pz n.old<;>cases decide (n.reqs.length<=30)<;>simp
theorem Ei (n:Nd) (A:bH) (w:World) (hz:fu n 1048600) (ha:dK w A n):
 Calls Tryz.prog 19 #[fI n A] w (eP w (.bool (dU n))):=by
 have HA:=Hq ha;have HZ:=Hq hz;have KW:=Hq (λw1 (hb:aX w w1)=>UW n A w1 hz.k (ha.below hb).k);have HPU:=Hq (λw1 (hb:aX w w1)=>nV A.p A.cp n.pu w1 hz.p (λp hp=>Nat.le_trans (hz.pk p hp) Aah) (ha.below hb).p);have HTO:=Hq (λw1 (hb:aX w w1)=>ZF n A w1 hz.k hz.s hz.sk (ha.below hb).k (ha.below hb).s);have OY:=Hq (λx b wc (hb:aX w wc) (h:dV n x=b)=>aeQ n A x b wc hz.k (ha.below hb).k h);have HOT:=Hq (fun(s:kC)=>show tX n s=(decide (1<=s.i/\s.i<=n.next - 1)&&dV n s.t&&keyOk s.k.data.toList&&fD s.n) from rfl);have K7:=Hq (fun(s:Rq)=>show qU n s=(decide (n.old+1<=s.no/\s.no<=1000000000)&&keyOk s.k.data.toList&&fD s.n&&decide (0<=s.s/\s.s<=2)) from rfl);have HD:=Hq (ndOk_head n);have kE:=Hq (heap_alloc_new w (.cells (dH n A) 30));generalize dZ n=PL at *;generalize iW n.pu=PS at *;generalize nC n=TD at *;generalize tX n=OT at *;generalize qU n=RQ at *;generalize dV n=NN at *;generalize dU n=TT at *;open akB in exact zB
structure TN (w W:World) (P R O:Obj) (rows:List (Nat×Obj)):Prop where
 par:W.heap[w.heap.size]?=some P
 res:W.heap[w.heap.size+1]?=some R
 out:W.heap[w.heap.size+1+1]?=some O
 rows:∀x∈rows,w.heap.size+1+1 < x.1/\W.heap[x.1]?=some x.2
 bel:aX w W
theorem TN.step {w W W':World} {P R O:Obj} {rows:List (Nat×Obj)} (h:TN w W P R O rows) (hb:aX W W'):TN w W' P R O rows:=
 ⟨ay h.par hb,ay h.res hb,ay h.out hb,λx hx=>⟨(h.rows x hx).1,ay (h.rows x hx).2 hb⟩,h.bel.trans (hb.mono h.bel.size)⟩
theorem TN.add {w W:World} {P R O:Obj} {rows:List (Nat×Obj)} (h:TN w W P R O rows) (more:List (Nat×Obj)) (hm:∀x∈more,w.heap.size+1+1 < x.1/\W.heap[x.1]?=some x.2):TN w W P R O (rows++more):=
 ⟨h.par,h.res,h.out,λx hx=>by rcases List.mem_append.1 hx with hx|hx;exact h.rows x hx;exact hm x hx,h.bel⟩
theorem TN.put {w W:World} {P R:Obj} {cs:Array Value} {t:TypeId} {rows:List (Nat×Obj)} (h:TN w W P R (.cells cs t (0,0)) rows) (i:Nat) (v:Value):TN w (W.setCell ⟨w.heap.size+1+1,i,none⟩ v) P R (.cells (cs.setIfInBounds i v) t (0,0)) rows:=
 ⟨jU h.par Aaa,jU h.res Aaa,bC h.out i v,λx hx=>⟨(h.rows x hx).1,jU (h.rows x hx).2 (by have:=(h.rows x hx).1;omega)⟩,h.bel.setCell (p:=⟨w.heap.size+1+1,i,none⟩) (by show w.heap.size<=w.heap.size+1+1;omega) v⟩
theorem fP.of {w:World} {g:Nat} {T:List R3} {I:Nat->Nat} {l:List Sn} (hT:Zn w g T) (hl:T.length=l.length) (h:∀i,i < l.length->T[i]?=some ⟨(l.getD i default).f,(l.getD i default).l,.slice (some ⟨I i,0,none⟩) (l.getD i default).ids.length (l.getD i default).ids.length⟩/\wI w (I i) (l.getD i default).ids):fP w (some ⟨g,0,none⟩) g I l:=by
 refine⟨T,GR.W.of_blk bZ hT,hl,λi hi=>?_⟩;have hd:l.getD i default=l[i]:=by rw [List.getD_eq_getElem?_getD,List.getElem?_eq_getElem hi];rfl
 obtain⟨h1,h2⟩:=h i hi;rw [hd] at h1 h2;exact⟨_,_,h1,GR.W.of_blk aQ h2⟩
end Go.Proofs.YtacgbldlonoaaaaGreatDoor
