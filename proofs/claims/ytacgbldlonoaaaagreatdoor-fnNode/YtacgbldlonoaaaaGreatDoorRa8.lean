/- Parts. -/
import Derived.Test.YtacgbldlonoaaaaGreatDoorRa3
namespace Go.Proofs.YtacgbldlonoaaaaGreatDoor
open Go.RowKit
open Mth
theorem Ip {w:World} {g:Nat} {a0 a1 a2 a3 a4 a5 a6 a7 a8 b0 b1 b2 b3 b4 b5 b6 b7 b8:Value} {t:TypeId} (h:w.heap[g]?=some (.cells #[a0,a1,a2,a3,a4,a5,a6,a7,a8] t (0,0))):
 (((((((((w.setCell ⟨g,0,none⟩ b0).setCell ⟨g,1,none⟩ b1).setCell ⟨g,2,none⟩ b2).setCell ⟨g,3,none⟩ b3).setCell ⟨g,4,none⟩ b4).setCell ⟨g,5,none⟩ b5).setCell ⟨g,6,none⟩ b6).setCell ⟨g,7,none⟩ b7).setCell ⟨g,8,none⟩ b8).heap[g]?=some (.cells #[b0,b1,b2,b3,b4,b5,b6,b7,b8] t (0,0)):=by
 have h0:(w.setCell ⟨g,0,none⟩ b0).heap[g]?=some (.cells #[b0,a1,a2,a3,a4,a5,a6,a7,a8] t (0,0)):=bg h 0 b0;have h1:((w.setCell ⟨g,0,none⟩ b0).setCell ⟨g,1,none⟩ b1).heap[g]?=some (.cells #[b0,b1,a2,a3,a4,a5,a6,a7,a8] t (0,0)):=bg h0 1 b1;have h2:(((w.setCell ⟨g,0,none⟩ b0).setCell ⟨g,1,none⟩ b1).setCell ⟨g,2,none⟩ b2).heap[g]?=some (.cells #[b0,b1,b2,a3,a4,a5,a6,a7,a8] t (0,0)):=bg h1 2 b2;have h3:((((w.setCell ⟨g,0,none⟩ b0).setCell ⟨g,1,none⟩ b1).setCell ⟨g,2,none⟩ b2).setCell ⟨g,3,none⟩ b3).heap[g]?=some (.cells #[b0,b1,b2,b3,a4,a5,a6,a7,a8] t (0,0)):=bg h2 3 b3;have h4:(((((w.setCell ⟨g,0,none⟩ b0).setCell ⟨g,1,none⟩ b1).setCell ⟨g,2,none⟩ b2).setCell ⟨g,3,none⟩ b3).setCell ⟨g,4,none⟩ b4).heap[g]?=some (.cells #[b0,b1,b2,b3,b4,a5,a6,a7,a8] t (0,0)):=bg h3 4 b4;have h5:((((((w.setCell ⟨g,0,none⟩ b0).setCell ⟨g,1,none⟩ b1).setCell ⟨g,2,none⟩ b2).setCell ⟨g,3,none⟩ b3).setCell ⟨g,4,none⟩ b4).setCell ⟨g,5,none⟩ b5).heap[g]?=some (.cells #[b0,b1,b2,b3,b4,b5,a6,a7,a8] t (0,0)):=bg h4 5 b5;have h6:(((((((w.setCell ⟨g,0,none⟩ b0).setCell ⟨g,1,none⟩ b1).setCell ⟨g,2,none⟩ b2).setCell ⟨g,3,none⟩ b3).setCell ⟨g,4,none⟩ b4).setCell ⟨g,5,none⟩ b5).setCell ⟨g,6,none⟩ b6).heap[g]?=some (.cells #[b0,b1,b2,b3,b4,b5,b6,a7,a8] t (0,0)):=bg h5 6 b6;have h7:((((((((w.setCell ⟨g,0,none⟩ b0).setCell ⟨g,1,none⟩ b1).setCell ⟨g,2,none⟩ b2).setCell ⟨g,3,none⟩ b3).setCell ⟨g,4,none⟩ b4).setCell ⟨g,5,none⟩ b5).setCell ⟨g,6,none⟩ b6).setCell ⟨g,7,none⟩ b7).heap[g]?=some (.cells #[b0,b1,b2,b3,b4,b5,b6,b7,a8] t (0,0)):=bg h6 7 b7;have h8:(((((((((w.setCell ⟨g,0,none⟩ b0).setCell ⟨g,1,none⟩ b1).setCell ⟨g,2,none⟩ b2).setCell ⟨g,3,none⟩ b3).setCell ⟨g,4,none⟩ b4).setCell ⟨g,5,none⟩ b5).setCell ⟨g,6,none⟩ b6).setCell ⟨g,7,none⟩ b7).setCell ⟨g,8,none⟩ b8).heap[g]?=some (.cells #[b0,b1,b2,b3,b4,b5,b6,b7,b8] t (0,0)):=bg h7 8 b8;exact h8
theorem zX {w:World} {g:Nat} {b0 b1 b2 b3 b4 b5 b6 b7 b8:Value}:aC [g] w (((((((((w.setCell ⟨g,0,none⟩ b0).setCell ⟨g,1,none⟩ b1).setCell ⟨g,2,none⟩ b2).setCell ⟨g,3,none⟩ b3).setCell ⟨g,4,none⟩ b4).setCell ⟨g,5,none⟩ b5).setCell ⟨g,6,none⟩ b6).setCell ⟨g,7,none⟩ b7).setCell ⟨g,8,none⟩ b8):=
 ((((((((aC.set b0).trans (aC.set b1)).trans (aC.set b2)).trans (aC.set b3)).trans (aC.set b4)).trans (aC.set b5)).trans (aC.set b6)).trans (aC.set b7)).trans (aC.set b8)
structure TN (w W:World) (P R O:Obj) (rows:List (Nat×Obj)):Prop where
 par:W.heap[w.heap.size]?=some P
 res:W.heap[w.heap.size+1]?=some R
 out:W.heap[w.heap.size+1+1]?=some O
 rows:∀x∈rows,w.heap.size+1+1 < x.1∧W.heap[x.1]?=some x.2
 bel:Below w.heap.size w W
theorem TN.step {w W W':World} {P R O:Obj} {rows:List (Nat×Obj)} (h:TN w W P R O rows) (hb:Below W.heap.size W W'):TN w W' P R O rows:=
 ⟨aj h.par hb,aj h.res hb,aj h.out hb,fun x hx=>⟨(h.rows x hx).1,aj (h.rows x hx).2 hb⟩,h.bel.trans (hb.mono h.bel.size)⟩
theorem TN.add {w W:World} {P R O:Obj} {rows:List (Nat×Obj)} (h:TN w W P R O rows) (more:List (Nat×Obj)) (hm:∀x∈more,w.heap.size+1+1 < x.1∧W.heap[x.1]?=some x.2):TN w W P R O (rows++more):=
 ⟨h.par,h.res,h.out,fun x hx=>by rcases List.mem_append.1 hx with hx|hx;exact h.rows x hx;exact hm x hx,h.bel⟩
theorem TN.put {w W:World} {P R:Obj} {cs:Array Value} {t:TypeId} {rows:List (Nat×Obj)} (h:TN w W P R (.cells cs t (0,0)) rows) (i:Nat) (v:Value):TN w (W.setCell ⟨w.heap.size+1+1,i,none⟩ v) P R (.cells (cs.setIfInBounds i v) t (0,0)) rows:=
 ⟨jd h.par (by omega),jd h.res (by omega),bg h.out i v,fun x hx=>⟨(h.rows x hx).1,jd (h.rows x hx).2 (by have:=(h.rows x hx).1;omega)⟩,h.bel.setCell (p:=⟨w.heap.size+1+1,i,none⟩) (by show w.heap.size≤w.heap.size+1+1;omega) v⟩
theorem eO.of {w:World} {g:Nat} {T:List R3} {I:Nat→Nat} {l:List Sn} (hT:Tg w g T) (hl:T.length=l.length) (h:∀i,i < l.length→T[i]?=some ⟨(l.getD i default).f,(l.getD i default).l,.slice (some ⟨I i,0,none⟩) (l.getD i default).ids.length (l.getD i default).ids.length⟩∧tN w (I i) (l.getD i default).ids):eO w (some ⟨g,0,none⟩) g I l:=by
 refine⟨T,GR.W.of_blk bC hT,hl,fun i hi=>?_⟩;have hd:l.getD i default=l[i]:=by rw [List.getD_eq_getElem?_getD,List.getElem?_eq_getElem hi];rfl
 obtain⟨h1,h2⟩:=h i hi;rw [hd] at h1 h2;exact⟨_,_,h1,GR.W.of_blk aN h2⟩
end Go.Proofs.YtacgbldlonoaaaaGreatDoor
