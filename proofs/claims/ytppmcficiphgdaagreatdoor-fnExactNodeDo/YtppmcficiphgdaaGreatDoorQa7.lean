/-
  NdNode.
-/
import Derived.Test.YtppmcficiphgdaaGreatDoorQa4
import Derived.Test.YtppmcficiphgdaaGreatDoorQaZ3
namespace Go.Proofs.YtppmcficiphgdaaGreatDoor
set_option maxHeartbeats 4000000
set_option maxRecDepth 100000
open Go.RowKit
open Mth
theorem nine_set {w:World} {g:Nat} {a0 a1 a2 a3 a4 a5 a6 a7 a8 b0 b1 b2 b3 b4 b5 b6 b7 b8:Value} {t:TypeId} (h:w.heap[g]?=some (.cells #[a0,a1,a2,a3,a4,a5,a6,a7,a8] t (0,0))):
 (((((((((w.setCell ⟨g,0,none⟩ b0).setCell ⟨g,1,none⟩ b1).setCell ⟨g,2,none⟩ b2).setCell ⟨g,3,none⟩ b3).setCell ⟨g,4,none⟩ b4).setCell ⟨g,5,none⟩ b5).setCell ⟨g,6,none⟩ b6).setCell ⟨g,7,none⟩ b7).setCell ⟨g,8,none⟩ b8).heap[g]?=some (.cells #[b0,b1,b2,b3,b4,b5,b6,b7,b8] t (0,0)):=by
 have h0:(w.setCell ⟨g,0,none⟩ b0).heap[g]?=some (.cells #[b0,a1,a2,a3,a4,a5,a6,a7,a8] t (0,0)):=blk_setO h 0 b0;have h1:((w.setCell ⟨g,0,none⟩ b0).setCell ⟨g,1,none⟩ b1).heap[g]?=some (.cells #[b0,b1,a2,a3,a4,a5,a6,a7,a8] t (0,0)):=blk_setO h0 1 b1;have h2:(((w.setCell ⟨g,0,none⟩ b0).setCell ⟨g,1,none⟩ b1).setCell ⟨g,2,none⟩ b2).heap[g]?=some (.cells #[b0,b1,b2,a3,a4,a5,a6,a7,a8] t (0,0)):=blk_setO h1 2 b2;have h3:((((w.setCell ⟨g,0,none⟩ b0).setCell ⟨g,1,none⟩ b1).setCell ⟨g,2,none⟩ b2).setCell ⟨g,3,none⟩ b3).heap[g]?=some (.cells #[b0,b1,b2,b3,a4,a5,a6,a7,a8] t (0,0)):=blk_setO h2 3 b3;have h4:(((((w.setCell ⟨g,0,none⟩ b0).setCell ⟨g,1,none⟩ b1).setCell ⟨g,2,none⟩ b2).setCell ⟨g,3,none⟩ b3).setCell ⟨g,4,none⟩ b4).heap[g]?=some (.cells #[b0,b1,b2,b3,b4,a5,a6,a7,a8] t (0,0)):=blk_setO h3 4 b4;have h5:((((((w.setCell ⟨g,0,none⟩ b0).setCell ⟨g,1,none⟩ b1).setCell ⟨g,2,none⟩ b2).setCell ⟨g,3,none⟩ b3).setCell ⟨g,4,none⟩ b4).setCell ⟨g,5,none⟩ b5).heap[g]?=some (.cells #[b0,b1,b2,b3,b4,b5,a6,a7,a8] t (0,0)):=blk_setO h4 5 b5;have h6:(((((((w.setCell ⟨g,0,none⟩ b0).setCell ⟨g,1,none⟩ b1).setCell ⟨g,2,none⟩ b2).setCell ⟨g,3,none⟩ b3).setCell ⟨g,4,none⟩ b4).setCell ⟨g,5,none⟩ b5).setCell ⟨g,6,none⟩ b6).heap[g]?=some (.cells #[b0,b1,b2,b3,b4,b5,b6,a7,a8] t (0,0)):=blk_setO h5 6 b6;have h7:((((((((w.setCell ⟨g,0,none⟩ b0).setCell ⟨g,1,none⟩ b1).setCell ⟨g,2,none⟩ b2).setCell ⟨g,3,none⟩ b3).setCell ⟨g,4,none⟩ b4).setCell ⟨g,5,none⟩ b5).setCell ⟨g,6,none⟩ b6).setCell ⟨g,7,none⟩ b7).heap[g]?=some (.cells #[b0,b1,b2,b3,b4,b5,b6,b7,a8] t (0,0)):=blk_setO h6 7 b7;have h8:(((((((((w.setCell ⟨g,0,none⟩ b0).setCell ⟨g,1,none⟩ b1).setCell ⟨g,2,none⟩ b2).setCell ⟨g,3,none⟩ b3).setCell ⟨g,4,none⟩ b4).setCell ⟨g,5,none⟩ b5).setCell ⟨g,6,none⟩ b6).setCell ⟨g,7,none⟩ b7).setCell ⟨g,8,none⟩ b8).heap[g]?=some (.cells #[b0,b1,b2,b3,b4,b5,b6,b7,b8] t (0,0)):=blk_setO h7 8 b8;exact h8
theorem nine_keeps {w:World} {g:Nat} {b0 b1 b2 b3 b4 b5 b6 b7 b8:Value}:KeepsL [g] w (((((((((w.setCell ⟨g,0,none⟩ b0).setCell ⟨g,1,none⟩ b1).setCell ⟨g,2,none⟩ b2).setCell ⟨g,3,none⟩ b3).setCell ⟨g,4,none⟩ b4).setCell ⟨g,5,none⟩ b5).setCell ⟨g,6,none⟩ b6).setCell ⟨g,7,none⟩ b7).setCell ⟨g,8,none⟩ b8):=
 ((((((((KeepsL.set b0).trans (KeepsL.set b1)).trans (KeepsL.set b2)).trans (KeepsL.set b3)).trans (KeepsL.set b4)).trans (KeepsL.set b5)).trans (KeepsL.set b6)).trans (KeepsL.set b7)).trans (KeepsL.set b8)
theorem allocs2 (w:World) (a b:Obj):((w.alloc a).alloc b).heap[w.heap.size]?=some a∧((w.alloc a).alloc b).heap[w.heap.size+1]?=some b∧Below w.heap.size w ((w.alloc a).alloc b):=by
 have e1:(w.alloc a).heap.size=w.heap.size+1:=by simp
 have h1:=heap_alloc_new w a;have h2:=heap_alloc_new (w.alloc a) b;rw [e1] at h2;refine⟨?_,h2,(below_one w _).alloc (by simp) _⟩;rw [Below.heap_alloc _ _ _ (by rw [e1];omega)];exact h1
structure TN (w W:World) (P R O:Obj) (rows:List (Nat×Obj)):Prop where
 par:W.heap[w.heap.size]?=some P
 res:W.heap[w.heap.size+1]?=some R
 out:W.heap[w.heap.size+1+1]?=some O
 rows:∀x∈rows,w.heap.size+1+1 < x.1∧W.heap[x.1]?=some x.2
 bel:Below w.heap.size w W
theorem TN.step {w W W':World} {P R O:Obj} {rows:List (Nat×Obj)} (h:TN w W P R O rows) (hb:Below W.heap.size W W'):TN w W' P R O rows:=
 ⟨obj_step h.par hb,obj_step h.res hb,obj_step h.out hb,fun x hx=>⟨(h.rows x hx).1,obj_step (h.rows x hx).2 hb⟩,h.bel.trans (hb.mono h.bel.size)⟩
theorem TN.add {w W:World} {P R O:Obj} {rows:List (Nat×Obj)} (h:TN w W P R O rows) (more:List (Nat×Obj)) (hm:∀x∈more,w.heap.size+1+1 < x.1∧W.heap[x.1]?=some x.2):TN w W P R O (rows++more):=
 ⟨h.par,h.res,h.out,fun x hx=>by rcases List.mem_append.1 hx with hx|hx;exact h.rows x hx;exact hm x hx,h.bel⟩
theorem TN.put {w W:World} {P R:Obj} {cs:Array Value} {t:TypeId} {rows:List (Nat×Obj)} (h:TN w W P R (.cells cs t (0,0)) rows) (i:Nat) (v:Value):TN w (W.setCell ⟨w.heap.size+1+1,i,none⟩ v) P R (.cells (cs.setIfInBounds i v) t (0,0)) rows:=
 ⟨oth_set h.par (by omega),oth_set h.res (by omega),blk_setO h.out i v,fun x hx=>⟨(h.rows x hx).1,oth_set (h.rows x hx).2 (by have:=(h.rows x hx).1;omega)⟩,h.bel.setCell (p:=⟨w.heap.size+1+1,i,none⟩) (by show w.heap.size≤w.heap.size+1+1;omega) v⟩
theorem SeenW.of {w:World} {g:Nat} {T:List R3} {I:Nat→Nat} {l:List Sn} (hT:r3Blk w g T) (hl:T.length=l.length) (h:∀i,i < l.length→T[i]?=some ⟨(l.getD i default).f,(l.getD i default).l,.slice (some ⟨I i,0,none⟩) (l.getD i default).ids.length (l.getD i default).ids.length⟩∧intBlk w (I i) (l.getD i default).ids):SeenW w (some ⟨g,0,none⟩) g I l:=by
 refine⟨T,GR.W.of_blk encR3_length hT,hl,fun i hi=>?_⟩;have hd:l.getD i default=l[i]:=by rw [List.getD_eq_getElem?_getD,List.getElem?_eq_getElem hi];rfl
 obtain⟨h1,h2⟩:=h i hi;rw [hd] at h1 h2;exact⟨_,_,h1,GR.W.of_blk encNum_length h2⟩
theorem fpI_asc {I:Nat→Nat} {l:List Sn} (h:∀i j,i < j→j < l.length→I i < I j):(fpI I l).Nodup:=by
 have key:∀m,m≤l.length→((List.range m).flatMap fun i=>fp (I i) (l.getD i default).ids).Nodup:=by
  intro m;induction m with
  |zero=>intro _;simp
  |succ m ih=>
   intro hm
   rw [List.range_succ,List.flatMap_append,List.nodup_append]
   refine⟨ih (by omega),by simpa using fp_nodup _ _,?_⟩
   intro a ha b hb
   rw [List.mem_flatMap] at ha
   obtain⟨i,hi,hx⟩:=ha
   have hi':=List.mem_range.1 hi
   have hb':b∈fp (I m) (l.getD m default).ids:=by simpa using hb
   rw [(of_fp hx).1,(of_fp hb').1]
   have:=h i m hi' (by omega)
   omega
 exact key l.length (Nat.le_refl _)
theorem toNode (n:Nd) (A:Ads) (w:World) (hz:NdSz n 1048576) (ha:NodeAt w A n):
 Calls Tryz.prog 20 #[ndv n A] w fun e w'=>∃A',e= .returned (ndv n A')∧∃G,NodeW w' A' G n∧G.Sep n w.heap.size w'.heap.size∧Below w.heap.size w w':=by
 have HZ:=hide hz;have HA:=hide ha;clear ha hz;have HTK:=hide (fun W (hb:Below w.heap.size w W)=>toIntS A.k A.ck n.kids W HZ.k (HA.below hb).k);have HTP:=hide (fun W (hb:Below w.heap.size w W)=>toPurseS A.p A.cp n.pu W HZ.p (HA.below hb).p);have HTO:=hide (fun W (hb:Below w.heap.size w W)=>toSentS A.o A.co n.out W HZ.o (HA.below hb).o);have HTS:=hide (fun W (hb:Below w.heap.size w W)=>toSeenS A.s A.cs n.seen W HZ.s HZ.sk (HA.below hb).s);have HTR:=hide (fun W (hb:Below w.heap.size w W)=>toReqS A.r A.cr n.reqs W HZ.r (HA.below hb).r);clear HA HZ;open Sa115 in exact Ya26
theorem szNode (n:Nd) (A:Ads) (w:World) (hz:NdSz n maxLen) (ha:NodeAt w A n):
 Calls Tryz.prog 17 #[ndv n A,.int .i64 1048576] w fun e w'=>∃r:Int,e= .returned (.int .i64 r)∧Below w.heap.size w w'∧(r= -1∨0≤r∧r≤1048576∧NdSz n 1048576):=by
 have HK:=hide (fun z w1 (h0:0≤z) (h1:z≤1048576)=>szIntS A.k A.ck n.kids z w1 h0 h1 hz.k);have HP:=hide (fun z w1 (hb:Below w.heap.size w w1) (h0:0≤z) (h1:z≤1048576)=>szPurseSG A.p A.cp n.pu z w1 h0 h1 hz.p hz.pk (ha.below hb).p);have HO:=hide (fun z w1 (hb:Below w.heap.size w w1) (h0:0≤z) (h1:z≤1048576)=>szSentS A.o A.co n.out z w1 h0 h1 hz.o hz.ok (ha.below hb).o);have HS:=hide (fun z w1 (hb:Below w.heap.size w w1) (h0:0≤z) (h1:z≤1048576)=>szSeenS A.s A.cs n.seen z w1 h0 h1 hz.s hz.sk (ha.below hb).s);have HR:=hide (fun z w1 (hb:Below w.heap.size w w1) (h0:0≤z) (h1:z≤1048576)=>szReqS A.r A.cr n.reqs z w1 h0 h1 hz.r hz.rk (ha.below hb).r);have HQ:Hid ((n.kids.length≤1048576)→(n.pu.length≤1048576∧∀p∈n.pu,p.k.size≤1048576)→(n.out.length≤1048576∧∀p∈n.out,p.k.size≤1048576)→(n.seen.length≤1048576∧∀p∈n.seen,p.ids.length≤1048576)→(n.reqs.length≤1048576∧∀p∈n.reqs,p.k.size≤1048576)→NdSz n 1048576):=fun h1 h2 h3 h4 h5=>⟨h1,h2.1,h3.1,h4.1,h5.1,h2.2,h3.2,h4.2,h5.2⟩
 have HBX:=hide (heap_alloc_new w (.cells (ndc n A) 55));have hkl:=hz.k;clear ha hz;generalize NdSz n 1048576=NZ at *;open Sa114 in exact Ya26
theorem eqNode (n:Nd) (A A':Ads) (w:World) (hz:NdSz n 1048600) (ha:NodeAt w A n) (hb:NodeAt w A' n):
 Calls Tryz.prog 22 #[ndv n A,ndv n A'] w fun e w'=>e= .returned (.bool true)∧Below w.heap.size w w':=by
 have HK:=hide (fun w1 (h:Below w.heap.size w w1)=>eqIntS A.k A'.k A.ck A'.ck n.kids w1 hz.k (ha.below h).k (hb.below h).k);have HP:=hide (fun w1 (h:Below w.heap.size w w1)=>eqPurseS A.p A'.p A.cp A'.cp n.pu w1 hz.p (ha.below h).p (hb.below h).p);have HO:=hide (fun w1 (h:Below w.heap.size w w1)=>eqSentS A.o A'.o A.co A'.co n.out w1 hz.o (ha.below h).o (hb.below h).o);have HS:=hide (fun w1 (h:Below w.heap.size w w1)=>eqSeenS A.s A'.s A.cs A'.cs n.seen w1 hz.s hz.sk (ha.below h).s (hb.below h).s);have HR:=hide (fun w1 (h:Below w.heap.size w w1)=>eqReqS A.r A'.r A.cr A'.cr n.reqs w1 hz.r (ha.below h).r (hb.below h).r);obtain⟨hA0,hB0,hL0⟩:=allocs2 w (.cells (ndc n A) 30) (.cells (ndc n A') 30);have HA0:=hide hA0;have HB0:=hide hB0;have HL0:=hide hL0;clear ha hb hz hA0 hB0 hL0;open Sa113 in exact Ya26
end Go.Proofs.YtppmcficiphgdaaGreatDoor
