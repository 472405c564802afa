/- Parts. -/
import Derived.Test.YtohmklmkjmlpjaaGreatDoorRk17
namespace Go.Proofs.YtohmklmkjmlpjaaGreatDoor
open Go.Proofs.Tryz
set_option maxHeartbeats 4000000
set_option maxRecDepth 100000
open Go.RowKit
open Mth
variable {w W:World} {g:Nat} {P R O:Obj} {rows:List (Nat×Obj)} {t:TypeId} {I:Nat->Nat} {l:List Sn}
theorem aci {a0 a1 a2 a3 a4 a5 a6 a7 a8 b0 b1 b2 b3 b4 b5 b6 b7 b8:Value} (h:w.heap[g]?=some (.cells #[a0,a1,a2,a3,a4,a5,a6,a7,a8] t (0,0))):
 (((((((((w.setCell ⟨g,0,none⟩ b0).setCell ⟨g,1,none⟩ b1).setCell ⟨g,2,none⟩ b2).setCell ⟨g,3,none⟩ b3).setCell ⟨g,4,none⟩ b4).setCell ⟨g,5,none⟩ b5).setCell ⟨g,6,none⟩ b6).setCell ⟨g,7,none⟩ b7).setCell ⟨g,8,none⟩ b8).heap[g]?=some (.cells #[b0,b1,b2,b3,b4,b5,b6,b7,b8] t (0,0)):=by
 have h0:(w.setCell ⟨g,0,none⟩ b0).heap[g]?=some (.cells #[b0,a1,a2,a3,a4,a5,a6,a7,a8] t (0,0)):=aN h 0 b0;have h1:((w.setCell ⟨g,0,none⟩ b0).setCell ⟨g,1,none⟩ b1).heap[g]?=some (.cells #[b0,b1,a2,a3,a4,a5,a6,a7,a8] t (0,0)):=aN h0 1 b1;have h2:(((w.setCell ⟨g,0,none⟩ b0).setCell ⟨g,1,none⟩ b1).setCell ⟨g,2,none⟩ b2).heap[g]?=some (.cells #[b0,b1,b2,a3,a4,a5,a6,a7,a8] t (0,0)):=aN h1 2 b2;have h3:((((w.setCell ⟨g,0,none⟩ b0).setCell ⟨g,1,none⟩ b1).setCell ⟨g,2,none⟩ b2).setCell ⟨g,3,none⟩ b3).heap[g]?=some (.cells #[b0,b1,b2,b3,a4,a5,a6,a7,a8] t (0,0)):=aN h2 3 b3;have h4:(((((w.setCell ⟨g,0,none⟩ b0).setCell ⟨g,1,none⟩ b1).setCell ⟨g,2,none⟩ b2).setCell ⟨g,3,none⟩ b3).setCell ⟨g,4,none⟩ b4).heap[g]?=some (.cells #[b0,b1,b2,b3,b4,a5,a6,a7,a8] t (0,0)):=aN h3 4 b4;have h5:((((((w.setCell ⟨g,0,none⟩ b0).setCell ⟨g,1,none⟩ b1).setCell ⟨g,2,none⟩ b2).setCell ⟨g,3,none⟩ b3).setCell ⟨g,4,none⟩ b4).setCell ⟨g,5,none⟩ b5).heap[g]?=some (.cells #[b0,b1,b2,b3,b4,b5,a6,a7,a8] t (0,0)):=aN h4 5 b5;have h6:(((((((w.setCell ⟨g,0,none⟩ b0).setCell ⟨g,1,none⟩ b1).setCell ⟨g,2,none⟩ b2).setCell ⟨g,3,none⟩ b3).setCell ⟨g,4,none⟩ b4).setCell ⟨g,5,none⟩ b5).setCell ⟨g,6,none⟩ b6).heap[g]?=some (.cells #[b0,b1,b2,b3,b4,b5,b6,a7,a8] t (0,0)):=aN h5 6 b6;have h7:((((((((w.setCell ⟨g,0,none⟩ b0).setCell ⟨g,1,none⟩ b1).setCell ⟨g,2,none⟩ b2).setCell ⟨g,3,none⟩ b3).setCell ⟨g,4,none⟩ b4).setCell ⟨g,5,none⟩ b5).setCell ⟨g,6,none⟩ b6).setCell ⟨g,7,none⟩ b7).heap[g]?=some (.cells #[b0,b1,b2,b3,b4,b5,b6,b7,a8] t (0,0)):=aN h6 7 b7;have h8:(((((((((w.setCell ⟨g,0,none⟩ b0).setCell ⟨g,1,none⟩ b1).setCell ⟨g,2,none⟩ b2).setCell ⟨g,3,none⟩ b3).setCell ⟨g,4,none⟩ b4).setCell ⟨g,5,none⟩ b5).setCell ⟨g,6,none⟩ b6).setCell ⟨g,7,none⟩ b7).setCell ⟨g,8,none⟩ b8).heap[g]?=some (.cells #[b0,b1,b2,b3,b4,b5,b6,b7,b8] t (0,0)):=aN h7 8 b8;exact h8
theorem TJ {b0 b1 b2 b3 b4 b5 b6 b7 b8:Value}:aC [g] w (((((((((w.setCell ⟨g,0,none⟩ b0).setCell ⟨g,1,none⟩ b1).setCell ⟨g,2,none⟩ b2).setCell ⟨g,3,none⟩ b3).setCell ⟨g,4,none⟩ b4).setCell ⟨g,5,none⟩ b5).setCell ⟨g,6,none⟩ b6).setCell ⟨g,7,none⟩ b7).setCell ⟨g,8,none⟩ b8):=
 ((((((((aC.set b0).trans (aC.set b1)).trans (aC.set b2)).trans (aC.set b3)).trans (aC.set b4)).trans (aC.set b5)).trans (aC.set b6)).trans (aC.set b7)).trans (aC.set b8)
theorem ad5 (w:World) (a b:Obj):((w.alloc a).alloc b).heap[w.heap.size]?=some a/\((w.alloc a).alloc b).heap[w.heap.size+1]?=some b/\Below w.heap.size w ((w.alloc a).alloc b):=by
 exact ahc
structure TN (w W:World) (P R O:Obj) (rows:List (Nat×Obj)):Prop where
 par:W.heap[w.heap.size]?=some P
 res:W.heap[w.heap.size+1]?=some R
 out:W.heap[w.heap.size+1+1]?=some O
 rows:∀x∈rows,w.heap.size+1+1 < x.1/\W.heap[x.1]?=some x.2
 bel:aI w W
theorem TN.step {W':World} (h:TN w W P R O rows) (hb:aI W W'):TN w W' P R O rows:=
 ⟨au h.par hb,au h.res hb,au h.out hb,λx hx=>⟨(h.rows x hx).1,au (h.rows x hx).2 hb⟩,h.bel.trans (hb.mono h.bel.size)⟩
theorem TN.add (h:TN w W P R O rows) (more:List (Nat×Obj)) (hm:∀x∈more,w.heap.size+1+1 < x.1/\W.heap[x.1]?=some x.2):TN w W P R O (rows++more):=
 ⟨h.par,h.res,h.out,λx hx=>by rcases List.mem_append.1 hx with hx|hx;exact h.rows x hx;exact hm x hx,h.bel⟩
theorem TN.put {cs:Array Value} (h:TN w W P R (.cells cs t (0,0)) rows) (i:Nat) (v:Value):TN w (W.setCell ⟨w.heap.size+1+1,i,none⟩ v) P R (.cells (cs.setIfInBounds i v) t (0,0)) rows:=
 ⟨jg h.par Aaa,jg h.res Aaa,aN h.out i v,λx hx=>⟨(h.rows x hx).1,jg (h.rows x hx).2 (by have:=(h.rows x hx).1;omega)⟩,h.bel.setCell (p:=⟨w.heap.size+1+1,i,none⟩) (by show w.heap.size<=w.heap.size+1+1;omega) v⟩
theorem iL.of {T:List R3} (hT:Fg w g T) (hl:T.length=l.length) (h:∀i,i < l.length->T[i]?=some ⟨(l.getD i default).f,(l.getD i default).l,.slice (some ⟨I i,0,none⟩) (l.getD i default).ids.length (l.getD i default).ids.length⟩/\lQ w (I i) (l.getD i default).ids):iL w (some ⟨g,0,none⟩) g I l:=by
 refine⟨T,GR.W.of_blk dK hT,hl,λi hi=>?_⟩;have hd:l.getD i default=l[i]:=by rw [List.getD_eq_getElem?_getD,List.getElem?_eq_getElem hi];rfl
 obtain⟨h1,h2⟩:=h i hi;rw [hd] at h1 h2;exact⟨_,_,h1,GR.W.of_blk aQ h2⟩
theorem aek (h:∀i j,i < j->j < l.length->I i < I j):(wO I l).Nodup:=by
 have key:∀m,m<=l.length->((List.range m).flatMap λi=>fp (I i) (l.getD i default).ids).Nodup:=by
  intro m;induction m with
  |zero=>intro _;simp
  |succ m ih=>
   intro hm;rw [List.range_succ,List.flatMap_append,List.nodup_append];refine⟨ih Aaa,by simpa using jq _ _,?_⟩;intro a ha b hb;rw [List.mem_flatMap] at ha;obtain⟨i,hi,hx⟩:=ha;have hi':=List.mem_range.1 hi;have hb':b∈fp (I m) (l.getD m default).ids:=by simpa using hb
   rw [(dY hx).1,(dY hb').1];have:=h i m hi' Aaa;omega
 exact key l.length (Nat.le_refl _)
theorem ac0 (n:Nd) (A:bQ) (w:World) (hz:eU n 1048576) (ha:dw w A n):
 Calls prog 22 #[gB n A] w λe w'=>∃A',e= .returned (gB n A')/\∃G,rz w' A' G n/\G.Sep n w.heap.size w'.heap.size/\aI w w':=by
 have HZ:=Hq hz;have HA:=Hq ha;clear ha hz;have NJ:=Hq (λW (hb:aI w W)=>acZ A.k A.ck n.kids W HZ.k (HA.below hb).k);have HTP:=Hq (λW (hb:aI w W)=>ac1 A.p A.cp n.pu W HZ.p (HA.below hb).p);have Ni:=Hq (λW (hb:aI w W)=>afb A.o A.co n.out W HZ.o (HA.below hb).o);have HTS:=Hq (λW (hb:aI w W)=>afa A.s A.cs n.seen W HZ.s HZ.sk (HA.below hb).s);have HTR:=Hq (λW (hb:aI w W)=>ak3 A.r A.cr n.reqs W HZ.r (HA.below hb).r);clear HA HZ;open aox in exact wL
theorem aaY (n:Nd) (A A':bQ) (w:World) (hz:eU n 1048600) (ha:dw w A n) (hb:dw w A' n):
 Calls prog 27 #[gB n A,gB n A'] w (eG w (.bool true)):=by
 have HK:=Hq (λw1 (h:aI w w1)=>aaV A.k A'.k A.ck A'.ck n.kids w1 hz.k (ha.below h).k (hb.below h).k);have HP:=Hq (λw1 (h:aI w w1)=>aaZ A.p A'.p A.cp A'.cp n.pu w1 hz.p (ha.below h).p (hb.below h).p);have HO:=Hq (λw1 (h:aI w w1)=>aej A.o A'.o A.co A'.co n.out w1 hz.o (ha.below h).o (hb.below h).o);have HS:=Hq (λw1 (h:aI w w1)=>aei A.s A'.s A.cs A'.cs n.seen w1 hz.s hz.sk (ha.below h).s (hb.below h).s);have HR:=Hq (λw1 (h:aI w w1)=>aj8 A.r A'.r A.cr A'.cr n.reqs w1 hz.r (ha.below h).r (hb.below h).r);obtain⟨hA0,hB0,hL0⟩:=ad5 w (.cells (dG n A) 40) (.cells (dG n A') 40);have HA0:=Hq hA0;have HB0:=Hq hB0;have nC:=Hq hL0;clear ha hb hz hA0 hB0 hL0;open aow in exact wL
theorem VO (n:Nd) (A:bQ) (z:Int) (w:World) (g0:0<=z) (g1:z<=1048576) (hz:eU n maxLen) (ha:dw w A n):
 Calls prog 14 #[gB n A,.int .i64 z] w λe w'=>∃r:Int,e= .returned (.int .i64 r)/\aI w w'/\(r= -1\/0<=r/\r<=1048576/\eU n 1048576):=by
 have HK:=Hq (λz w1 (h0:0<=z) (h1:z<=1048576)=>acV A.k A.ck n.kids z w1 h0 h1 hz.k);have HP:=Hq (λz w1 (hb:aI w w1) (h0:0<=z) (h1:z<=1048576)=>Yk A.p A.cp n.pu z w1 h0 h1 hz.p hz.pk (ha.below hb).p);have HO:=Hq (λz w1 (hb:aI w w1) (h0:0<=z) (h1:z<=1048576)=>ae8 A.o A.co n.out z w1 h0 h1 hz.o hz.ok (ha.below hb).o);have HS:=Hq (λz w1 (hb:aI w w1) (h0:0<=z) (h1:z<=1048576)=>ae7 A.s A.cs n.seen z w1 h0 h1 hz.s hz.sk (ha.below hb).s);have HR:=Hq (λz w1 (hb:aI w w1) (h0:0<=z) (h1:z<=1048576)=>akY A.r A.cr n.reqs z w1 h0 h1 hz.r hz.rk (ha.below hb).r);have HQ:Hid ((n.kids.length<=1048576)->(n.pu.length<=1048576/\∀p∈n.pu,p.k.size<=1048576)->(n.out.length<=1048576/\∀p∈n.out,p.k.size<=1048576)->(n.seen.length<=1048576/\∀p∈n.seen,p.ids.length<=1048576)->(n.reqs.length<=1048576/\∀p∈n.reqs,p.k.size<=1048576)->eU n 1048576):=λh1 h2 h3 h4 h5=>⟨h1,h2.1,h3.1,h4.1,h5.1,h2.2,h3.2,h4.2,h5.2⟩
 have jN:=Hq (heap_alloc_new w (.cells (dG n A) 28));have hkl:=hz.k;clear ha hz;generalize eU n 1048576=NZ at *;open aoG in exact wL
end Go.Proofs.YtohmklmkjmlpjaaGreatDoor
