/-
  NdNode, NdOkS, NdI3, NdShelf, NdI4, NdI5.
-/
import Derived.Test.YtheiblbhlmaphaaPa4
import Derived.Test.YtheiblbhlmaphaaPaZ2
import Derived.Test.YtheiblbhlmaphaaProg
import Derived.Test.YtheiblbhlmaphaaPa2
import Derived.Shelf.SortM.Plain
import Derived.Shelf.SortM.SortNone
import Derived.Shelf.SlicesE.Clone
import Derived.Shelf.SlGeneric
import Derived.Sort.OwnSortedInts
namespace Go.Proofs.Ytheiblbhlmaphaa
set_option maxHeartbeats 2000000
set_option maxRecDepth 100000
open Go.RowKit
open Mth
theorem nine_set {w:World} {g:Nat} {a0 a1 a2 a3 a4 a5 a6 a7 a8 b0 b1 b2 b3 b4 b5 b6 b7 b8:Value} {t:TypeId} (h:w.heap[g]?=some (.cells #[a0,a1,a2,a3,a4,a5,a6,a7,a8] t (0,0))):
 (((((((((w.setCell ⟨g,0,none⟩ b0).setCell ⟨g,1,none⟩ b1).setCell ⟨g,2,none⟩ b2).setCell ⟨g,3,none⟩ b3).setCell ⟨g,4,none⟩ b4).setCell ⟨g,5,none⟩ b5).setCell ⟨g,6,none⟩ b6).setCell ⟨g,7,none⟩ b7).setCell ⟨g,8,none⟩ b8).heap[g]?=some (.cells #[b0,b1,b2,b3,b4,b5,b6,b7,b8] t (0,0)):=by
 have h0:(w.setCell ⟨g,0,none⟩ b0).heap[g]?=some (.cells #[b0,a1,a2,a3,a4,a5,a6,a7,a8] t (0,0)):=blk_setO h 0 b0;have h1:((w.setCell ⟨g,0,none⟩ b0).setCell ⟨g,1,none⟩ b1).heap[g]?=some (.cells #[b0,b1,a2,a3,a4,a5,a6,a7,a8] t (0,0)):=blk_setO h0 1 b1;have h2:(((w.setCell ⟨g,0,none⟩ b0).setCell ⟨g,1,none⟩ b1).setCell ⟨g,2,none⟩ b2).heap[g]?=some (.cells #[b0,b1,b2,a3,a4,a5,a6,a7,a8] t (0,0)):=blk_setO h1 2 b2;have h3:((((w.setCell ⟨g,0,none⟩ b0).setCell ⟨g,1,none⟩ b1).setCell ⟨g,2,none⟩ b2).setCell ⟨g,3,none⟩ b3).heap[g]?=some (.cells #[b0,b1,b2,b3,a4,a5,a6,a7,a8] t (0,0)):=blk_setO h2 3 b3;have h4:(((((w.setCell ⟨g,0,none⟩ b0).setCell ⟨g,1,none⟩ b1).setCell ⟨g,2,none⟩ b2).setCell ⟨g,3,none⟩ b3).setCell ⟨g,4,none⟩ b4).heap[g]?=some (.cells #[b0,b1,b2,b3,b4,a5,a6,a7,a8] t (0,0)):=blk_setO h3 4 b4;have h5:((((((w.setCell ⟨g,0,none⟩ b0).setCell ⟨g,1,none⟩ b1).setCell ⟨g,2,none⟩ b2).setCell ⟨g,3,none⟩ b3).setCell ⟨g,4,none⟩ b4).setCell ⟨g,5,none⟩ b5).heap[g]?=some (.cells #[b0,b1,b2,b3,b4,b5,a6,a7,a8] t (0,0)):=blk_setO h4 5 b5;have h6:(((((((w.setCell ⟨g,0,none⟩ b0).setCell ⟨g,1,none⟩ b1).setCell ⟨g,2,none⟩ b2).setCell ⟨g,3,none⟩ b3).setCell ⟨g,4,none⟩ b4).setCell ⟨g,5,none⟩ b5).setCell ⟨g,6,none⟩ b6).heap[g]?=some (.cells #[b0,b1,b2,b3,b4,b5,b6,a7,a8] t (0,0)):=blk_setO h5 6 b6;have h7:((((((((w.setCell ⟨g,0,none⟩ b0).setCell ⟨g,1,none⟩ b1).setCell ⟨g,2,none⟩ b2).setCell ⟨g,3,none⟩ b3).setCell ⟨g,4,none⟩ b4).setCell ⟨g,5,none⟩ b5).setCell ⟨g,6,none⟩ b6).setCell ⟨g,7,none⟩ b7).heap[g]?=some (.cells #[b0,b1,b2,b3,b4,b5,b6,b7,a8] t (0,0)):=blk_setO h6 7 b7;have h8:(((((((((w.setCell ⟨g,0,none⟩ b0).setCell ⟨g,1,none⟩ b1).setCell ⟨g,2,none⟩ b2).setCell ⟨g,3,none⟩ b3).setCell ⟨g,4,none⟩ b4).setCell ⟨g,5,none⟩ b5).setCell ⟨g,6,none⟩ b6).setCell ⟨g,7,none⟩ b7).setCell ⟨g,8,none⟩ b8).heap[g]?=some (.cells #[b0,b1,b2,b3,b4,b5,b6,b7,b8] t (0,0)):=blk_setO h7 8 b8;exact h8
theorem nine_keeps {w:World} {g:Nat} {b0 b1 b2 b3 b4 b5 b6 b7 b8:Value}:KeepsL [g] w (((((((((w.setCell ⟨g,0,none⟩ b0).setCell ⟨g,1,none⟩ b1).setCell ⟨g,2,none⟩ b2).setCell ⟨g,3,none⟩ b3).setCell ⟨g,4,none⟩ b4).setCell ⟨g,5,none⟩ b5).setCell ⟨g,6,none⟩ b6).setCell ⟨g,7,none⟩ b7).setCell ⟨g,8,none⟩ b8):=
 ((((((((KeepsL.set b0).trans (KeepsL.set b1)).trans (KeepsL.set b2)).trans (KeepsL.set b3)).trans (KeepsL.set b4)).trans (KeepsL.set b5)).trans (KeepsL.set b6)).trans (KeepsL.set b7)).trans (KeepsL.set b8)
theorem allocs2 (w:World) (a b:Obj):((w.alloc a).alloc b).heap[w.heap.size]?=some a∧((w.alloc a).alloc b).heap[w.heap.size+1]?=some b∧Below w.heap.size w ((w.alloc a).alloc b):=by
 have e1:(w.alloc a).heap.size=w.heap.size+1:=by simp
 have h1:=heap_alloc_new w a;have h2:=heap_alloc_new (w.alloc a) b;rw [e1] at h2;refine⟨?_,h2,(below_one w _).alloc (by simp) _⟩;rw [Below.heap_alloc _ _ _ (by rw [e1];omega)];exact h1
structure TN (w W:World) (P R O:Obj) (rows:List (Nat×Obj)):Prop where
 par:W.heap[w.heap.size]?=some P
 res:W.heap[w.heap.size+1]?=some R
 out:W.heap[w.heap.size+1+1]?=some O
 rows:∀x∈rows,w.heap.size+1+1 < x.1∧W.heap[x.1]?=some x.2
 bel:Below w.heap.size w W
theorem TN.step {w W W':World} {P R O:Obj} {rows:List (Nat×Obj)} (h:TN w W P R O rows) (hb:Below W.heap.size W W'):TN w W' P R O rows:=
 ⟨obj_step h.par hb,obj_step h.res hb,obj_step h.out hb,fun x hx=>⟨(h.rows x hx).1,obj_step (h.rows x hx).2 hb⟩,h.bel.trans (hb.mono h.bel.size)⟩
theorem TN.add {w W:World} {P R O:Obj} {rows:List (Nat×Obj)} (h:TN w W P R O rows) (more:List (Nat×Obj)) (hm:∀x∈more,w.heap.size+1+1 < x.1∧W.heap[x.1]?=some x.2):TN w W P R O (rows++more):=
 ⟨h.par,h.res,h.out,fun x hx=>by rcases List.mem_append.1 hx with hx|hx;exact h.rows x hx;exact hm x hx,h.bel⟩
theorem TN.put {w W:World} {P R:Obj} {cs:Array Value} {t:TypeId} {rows:List (Nat×Obj)} (h:TN w W P R (.cells cs t (0,0)) rows) (i:Nat) (v:Value):TN w (W.setCell ⟨w.heap.size+1+1,i,none⟩ v) P R (.cells (cs.setIfInBounds i v) t (0,0)) rows:=
 ⟨oth_set h.par (by omega),oth_set h.res (by omega),blk_setO h.out i v,fun x hx=>⟨(h.rows x hx).1,oth_set (h.rows x hx).2 (by have:=(h.rows x hx).1;omega)⟩,h.bel.setCell (p:=⟨w.heap.size+1+1,i,none⟩) (by show w.heap.size≤w.heap.size+1+1;omega) v⟩
theorem SeenW.of {w:World} {g:Nat} {T:List R3} {I:Nat→Nat} {l:List Sn} (hT:r3Blk w g T) (hl:T.length=l.length) (h:∀i,i < l.length→T[i]?=some ⟨(l.getD i default).f,(l.getD i default).l,.slice (some ⟨I i,0,none⟩) (l.getD i default).ids.length (l.getD i default).ids.length⟩∧intBlk w (I i) (l.getD i default).ids):SeenW w (some ⟨g,0,none⟩) g I l:=by
 refine⟨T,GR.W.of_blk encR3_length hT,hl,fun i hi=>?_⟩;have hd:l.getD i default=l[i]:=by rw [List.getD_eq_getElem?_getD,List.getElem?_eq_getElem hi];rfl
 obtain⟨h1,h2⟩:=h i hi;rw [hd] at h1 h2;exact⟨_,_,h1,GR.W.of_blk encNum_length h2⟩
theorem fpI_asc {I:Nat→Nat} {l:List Sn} (h:∀i j,i < j→j < l.length→I i < I j):(fpI I l).Nodup:=by
 have key:∀m,m≤l.length→((List.range m).flatMap fun i=>fp (I i) (l.getD i default).ids).Nodup:=by
  intro m;induction m with
  |zero=>intro _;simp
  |succ m ih=>
   intro hm
   rw [List.range_succ,List.flatMap_append,List.nodup_append]
   refine⟨ih (by omega),by simpa using fp_nodup _ _,?_⟩
   intro a ha b hb
   rw [List.mem_flatMap] at ha
   obtain⟨i,hi,hx⟩:=ha
   have hi':=List.mem_range.1 hi
   have hb':b∈fp (I m) (l.getD m default).ids:=by simpa using hb
   rw [(of_fp hx).1,(of_fp hb').1]
   have:=h i m hi' (by omega)
   omega
 exact key l.length (Nat.le_refl _)
theorem eqNode (n:Nd) (A A':Ads) (w:World) (hz:NdSz n 1048600) (ha:NodeAt w A n) (hb:NodeAt w A' n):
 Calls Try.prog 21 #[ndv n A,ndv n A'] w fun e w'=>e= .returned (.bool true)∧Below w.heap.size w w':=by
 have HK:=hide (fun w1 (h:Below w.heap.size w w1)=>eqIntS A.k A'.k A.ck A'.ck n.kids w1 hz.k (ha.below h).k (hb.below h).k);have HP:=hide (fun w1 (h:Below w.heap.size w w1)=>eqPurseS A.p A'.p A.cp A'.cp n.pu w1 hz.p (ha.below h).p (hb.below h).p);have HO:=hide (fun w1 (h:Below w.heap.size w w1)=>eqSentS A.o A'.o A.co A'.co n.out w1 hz.o (ha.below h).o (hb.below h).o);have HS:=hide (fun w1 (h:Below w.heap.size w w1)=>eqSeenS A.s A'.s A.cs A'.cs n.seen w1 hz.s hz.sk (ha.below h).s (hb.below h).s);have HR:=hide (fun w1 (h:Below w.heap.size w w1)=>eqReqS A.r A'.r A.cr A'.cr n.reqs w1 hz.r (ha.below h).r (hb.below h).r);obtain⟨hA0,hB0,hL0⟩:=allocs2 w (.cells (ndc n A) 42) (.cells (ndc n A') 42);have HA0:=hide hA0;have HB0:=hide hB0;have HL0:=hide hL0;clear ha hb hz hA0 hB0 hL0;open Sa72 in exact Ya23
end Go.Proofs.Ytheiblbhlmaphaa
namespace Go.Proofs.Ytheiblbhlmaphaa
set_option maxHeartbeats 8000000
set_option maxRecDepth 100000
open Go.RowKit
open Mth
theorem rIn (x a b:Int) (r:Bool) (wc:World) (hb:decide (a≤x∧x≤b)=r):∀d os,Calls Try.prog 33 #[.int .i64 x,.int .i64 a,.int .i64 b] (Sort.grow (redrawn wc d) os) fun e w''=>e= .returned (.bool r)∧∃p:Regrown,w''=Sort.grow (redrawn wc p.d) p.os:=fun _ _=>
 Calls.regrown_of ((l01InR x a b r _ hb).mono fun _ _ ⟨he,hw⟩=>⟨he,hw▸Below.refl _ _⟩)
theorem rKey (s:ByteArray) (b:Bool) (wc:World) (hs:s.size≤maxLen) (hb:keyOk s.data.toList=b):∀d os,Calls Try.prog 50 #[.string s] (Sort.grow (redrawn wc d) os) fun e w''=>e= .returned (.bool b)∧∃p:Regrown,w''=Sort.grow (redrawn wc p.d) p.os:=fun _ _=>
 Calls.regrown_of ((specKeyB s b _ hs hb).mono fun _ _ ⟨he,hw⟩=>⟨he,hw▸Below.refl _ _⟩)
theorem fourC {w:World} {g:Nat} {v0 v1 v2 v3:Value} {t:TypeId} (h:w.heap[g]?=some (.cells #[v0,v1,v2,v3] t (0,0))):
 w.cell? ⟨g,0,none⟩=some v0∧w.cell? ⟨g,1,none⟩=some v1∧w.cell? ⟨g,2,none⟩=some v2∧w.cell? ⟨g,3,none⟩=some v3:=by
 have hc:∀i,w.cell? ⟨g,i,none⟩=#[v0,v1,v2,v3][i]?:=fun i=>cell_of_row w g i _ t (0,0) h
 exact⟨hc 0,hc 1,hc 2,hc 3⟩
theorem l01AmB (x:Int) (b:Bool) (w:World) (h:amB x=b):Calls Try.prog 49 #[.int .i64 x] w fun e w'=>e= .returned (.bool b)∧w=w':=by
 rw [←h];exact l01Amount x w
theorem Mth.am_inn (x:Int):decide (Inn x 0 1000000000)=amB x:=rfl
theorem Mth.ndOk_head (n:Nd):ndOk n=((placeB n&&psOk n.pu&&toldB n&&smB n.next&&decide (n.out.length≤40)&&amB n.old&&decide (n.reqs.length≤30))&&(chk (outB n) (fun s t=>ltB s.i t.i) n.out&&chk (reqB n) (fun s t=>ltB s.no t.no) n.reqs)):=by
 unfold ndOk outsB reqsB;cases placeB n<;>cases psOk n.pu<;>cases toldB n<;>cases smB n.next<;>cases decide (n.out.length≤40)<;>cases amB n.old<;>cases decide (n.reqs.length≤30)<;>simp
theorem specNodeOk (n:Nd) (A:Ads) (w:World) (hz:NdSz n 1048600) (ha:NodeAt w A n):
 Calls Try.prog 35 #[ndv n A] w fun e w'=>e= .returned (.bool (ndOk n))∧Below w.heap.size w w':=by
 have HA:=hide ha;have HZ:=hide hz;have HPL:=hide (fun w1 (hb:Below w.heap.size w w1)=>specPlace n A w1 hz.k (ha.below hb).k);have HPU:=hide (fun w1 (hb:Below w.heap.size w w1)=>specPursesOk A.p A.cp n.pu w1 hz.p (fun p hp=>Nat.le_trans (hz.pk p hp) (by unfold maxLen;omega)) (ha.below hb).p);have HTO:=hide (fun w1 (hb:Below w.heap.size w w1)=>specTold n A w1 hz.k hz.s hz.sk (ha.below hb).k (ha.below hb).s);have HNR:=hide (fun x b wc (hb:Below w.heap.size w wc) (h:nearB n x=b)=>rNear n A x b wc hz.k (ha.below hb).k h);have HOT:=hide (fun(s:Snt)=>show outB n s=(decide (1≤s.i∧s.i≤n.next - 1)&&nearB n s.t&&keyOk s.k.data.toList&&smB s.n) from rfl);have HRQ:=hide (fun(s:Rq)=>show reqB n s=(decide (n.old+1≤s.no∧s.no≤1000000000)&&keyOk s.k.data.toList&&smB s.n&&decide (0≤s.s∧s.s≤2)) from rfl);have HD:=hide (ndOk_head n);have HBX:=hide (heap_alloc_new w (.cells (ndc n A) 42));generalize placeB n=PL at *;generalize psOk n.pu=PS at *;generalize toldB n=TD at *;generalize outB n=OT at *;generalize reqB n=RQ at *;generalize nearB n=NN at *;generalize ndOk n=TT at *;open Sa73 in exact Ya23
end Go.Proofs.Ytheiblbhlmaphaa
namespace Go.Proofs.Ytheiblbhlmaphaa
set_option maxHeartbeats 4000000
set_option maxRecDepth 100000
open Go.RowKit
open Mth
theorem implOutOk (n:Nd) (A:Ads) (w:World) (hz:NdSz n 1048600) (hp:placeB n=true) (ha:NodeAt w A n):
 Calls Try.prog 55 #[ndv n A] w fun e w'=>e= .returned (.bool (outsB n))∧Below w.heap.size w w':=by
 have HA:=hide ha;have HD:Hid (outsB n=(decide (n.out.length≤40)&&chk (outB n) (fun s t=>ltB s.i t.i) n.out)):=rfl;have HCB:=hide (fun k h=>chk_bad (outB n) (fun s t=>ltB s.i t.i) n.out k h);have HCL:=hide (fun k h=>chk_last (outB n) (fun s=>s.i) 0 (fun x=>out_pos) n.out k h);have HLS:=hide (fun k h=>lastI_snoc (fun s:Snt=>s.i) 0 n.out k h);have HLB:=hide (fun k (h:chk (outB n) (fun s t=>ltB s.i t.i) (n.out.take k)=true)=>chk_lastI (key:=fun s=>s.i) (y0:=0) (fun x=>out_pos) h);have HKB:=hide (fun s=>show outB n s=(decide (1≤s.i∧s.i≤n.next - 1)&&nearB n s.t&&keyOk s.k.data.toList&&smB s.n) from rfl)
 have HNR:Hid (∀x w1,Below w.heap.size w w1→Calls Try.prog 67 #[ndv n A,.int .i64 x] w1 fun e w'=>e= .returned (.bool (nearB n x))∧Below w1.heap.size w1 w'):=fun x w1 hb=>by
  have h:=implNear n A x w1 hz.k (ha.below hb).k
  rw [near_same hp] at h
  exact h
 have hlo:=hz.o;have HBX:=hide (heap_alloc_new w (.cells (ndc n A) 42));generalize outsB n=TT at *;generalize outB n=KB at *;generalize nearB n=NN at *;clear ha hz hp;open Sa75 in exact Ya23
theorem implReqsOk (n:Nd) (A:Ads) (w:World) (hz:NdSz n 1048600) (ha:NodeAt w A n):
 Calls Try.prog 57 #[ndv n A] w fun e w'=>e= .returned (.bool (reqsB n))∧Below w.heap.size w w':=by
 have HA:=hide ha;have HD:Hid (reqsB n=(amB n.old&&decide (n.reqs.length≤30)&&chk (reqB n) (fun s t=>ltB s.no t.no) n.reqs)):=rfl;have HCB:=hide (fun k h=>chk_bad (reqB n) (fun s t=>ltB s.no t.no) n.reqs k h);have HCL:=hide (fun k h=>chk_last (reqB n) (fun s=>s.no) n.old (fun x=>req_pos) n.reqs k h);have HLS:=hide (fun k h=>lastI_snoc (fun s:Rq=>s.no) n.old n.reqs k h);have HLB:=hide (fun k (h:chk (reqB n) (fun s t=>ltB s.no t.no) (n.reqs.take k)=true)=>chk_lastI (key:=fun s=>s.no) (y0:=n.old) (fun x=>req_pos) h);have HKB:=hide (fun s=>show reqB n s=(decide (n.old+1≤s.no∧s.no≤1000000000)&&keyOk s.k.data.toList&&smB s.n&&decide (0≤s.s∧s.s≤2)) from rfl);have hlo:=hz.r;have HBX:=hide (heap_alloc_new w (.cells (ndc n A) 42));generalize reqsB n=TT at *;generalize reqB n=KB at *;clear ha hz;open Sa74 in exact Ya23
end Go.Proofs.Ytheiblbhlmaphaa
namespace Go.Proofs
open Go.Shelf
def Try.sortL_ren:Go.Shelf.Ren:=⟨fun|5=>51|8=>64|7=>63|19=>80|20=>81|10=>71|11=>72|12=>73|13=>74|14=>75|15=>76|16=>77|17=>78|18=>79|30=>85|31=>86|32=>87|33=>88|34=>89|35=>90|40=>92|n=>n,fun|23=>22|25=>3|3=>3|32=>84|22=>22|0=>0|44=>95|46=>97|4=>4|36=>87|35=>86|41=>92|5=>5|9=>9|53=>99|57=>103|63=>105|64=>106|n=>n,fun|n=>n⟩
theorem Try.sortL:Go.Proofs.SlLaysM.n5 Try.prog Try.sortL_ren:={
 mixed:=by kernel_rfl
 f5:=⟨Try.f51.name,by decide,Try.func51.trans (congrArg some (by kernel_rfl))⟩
 f7:=⟨Try.f63.name,by decide,Try.func63.trans (congrArg some (by kernel_rfl))⟩
 f8:=Try.func64.trans (congrArg some (by kernel_rfl))
 f10:=⟨Try.f71.name,by decide,Try.func71.trans (congrArg some (by kernel_rfl))⟩
 f11:=⟨Try.f72.name,by decide,Try.func72.trans (congrArg some (by kernel_rfl))⟩
 f12:=⟨Try.f73.name,by decide,Try.func73.trans (congrArg some (by kernel_rfl))⟩
 f13:=⟨Try.f74.name,by decide,Try.func74.trans (congrArg some (by kernel_rfl))⟩
 f14:=⟨Try.f75.name,by decide,Try.func75.trans (congrArg some (by kernel_rfl))⟩
 f15:=⟨Try.f76.name,by decide,Try.func76.trans (congrArg some (by kernel_rfl))⟩
 f16:=⟨Try.f77.name,by decide,Try.func77.trans (congrArg some (by kernel_rfl))⟩
 f17:=⟨Try.f78.name,by decide,Try.func78.trans (congrArg some (by kernel_rfl))⟩
 f18:=⟨Try.f79.name,by decide,Try.func79.trans (congrArg some (by kernel_rfl))⟩
 f19:=Try.func80.trans (congrArg some (by kernel_rfl))
 f20:=Try.func81.trans (congrArg some (by kernel_rfl))
 f30:=⟨Try.f85.name,by decide,Try.func85.trans (congrArg some (by kernel_rfl))⟩
 f31:=Try.func86.trans (congrArg some (by kernel_rfl))
 f32:=Try.func87.trans (congrArg some (by kernel_rfl))
 f33:=⟨Try.f88.name,by decide,Try.func88.trans (congrArg some (by kernel_rfl))⟩
 f34:=⟨Try.f89.name,by decide,Try.func89.trans (congrArg some (by kernel_rfl))⟩
 f35:=⟨Try.f90.name,by decide,Try.func90.trans (congrArg some (by kernel_rfl))⟩
 f40:=⟨Try.f92.name,by decide,Try.func92.trans (congrArg some (by kernel_rfl))⟩
 t0:=Try.underlying0
 a0:=Try.isAgg0
 z0:=Try.sizeOf0
 v0:=Try.zeroValue0
 t3:=Try.underlying3
 a3:=Try.isAgg3
 z3:=Try.sizeOf3
 v3:=Try.zeroValue3
 t4:=Try.underlying4
 a4:=Try.isAgg4
 z4:=Try.sizeOf4
 v4:=Try.zeroValue4
 t5:=Try.underlying5
 a5:=Try.isAgg5
 z5:=Try.sizeOf5
 v5:=Try.zeroValue5
 t9:=Try.underlying9
 a9:=Try.isAgg9
 z9:=Try.sizeOf9
 v9:=Try.zeroValue9
 t22:=Try.underlying22
 a22:=Try.isAgg22
 z22:=Try.sizeOf22
 v22:=Try.zeroValue22
 t23:=Try.underlying22
 a23:=Try.isAgg22
 z23:=Try.sizeOf22
 v23:=Try.zeroValue22
 t25:=Try.underlying3
 a25:=Try.isAgg3
 z25:=Try.sizeOf3
 v25:=Try.zeroValue3
 t32:=Try.underlying84
 a32:=Try.isAgg84
 z32:=Try.sizeOf84
 v32:=Try.zeroValue84
 t35:=Try.underlying86
 a35:=Try.isAgg86
 z35:=Try.sizeOf86
 v35:=Try.zeroValue86
 t36:=Try.underlying87
 a36:=Try.isAgg87
 z36:=Try.sizeOf87
 v36:=Try.zeroValue87
 t41:=Try.underlying92
 a41:=Try.isAgg92
 z41:=Try.sizeOf92
 v41:=Try.zeroValue92
 t44:=Try.underlying95
 a44:=Try.isAgg95
 z44:=Try.sizeOf95
 v44:=Try.zeroValue95
 t46:=Try.underlying97
 a46:=Try.isAgg97
 z46:=Try.sizeOf97
 v46:=Try.zeroValue97
 t53:=Try.underlying99
 a53:=Try.isAgg99
 z53:=Try.sizeOf99
 v53:=Try.zeroValue99
 t57:=Try.underlying103
 a57:=Try.isAgg103
 z57:=Try.sizeOf103
 v57:=Try.zeroValue103
 t63:=Try.underlying105
 a63:=Try.isAgg105
 z63:=Try.sizeOf105
 v63:=Try.zeroValue105
 t64:=Try.underlying106
 a64:=Try.isAgg106
 z64:=Try.sizeOf106
 v64:=Try.zeroValue106}
def Try.cloneI_ren:Go.Shelf.Ren:=⟨fun|41=>36|n=>n,fun|22=>22|23=>3|4=>4|n=>n,fun|n=>n⟩
theorem Try.cloneI:Go.Proofs.SlLaysE0.n41 Try.prog Try.cloneI_ren:={
 mixed:=by kernel_rfl
 f41:=⟨Try.f36.name,by decide,Try.func36.trans (congrArg some (by kernel_rfl))⟩
 t4:=Try.underlying4
 a4:=Try.isAgg4
 z4:=Try.sizeOf4
 v4:=Try.zeroValue4
 t22:=Try.underlying22
 a22:=Try.isAgg22
 z22:=Try.sizeOf22
 v22:=Try.zeroValue22}
end Go.Proofs
namespace Go.Proofs.Ytheiblbhlmaphaa
set_option maxHeartbeats 2000000
set_option maxRecDepth 100000
open Go.RowKit
open Mth
theorem flat_encNum (l:List Int):GR.flat encNum l=l.map (Value.int .i64):=by
 induction l with
 |nil=>rfl
 |cons x l ih=>rw [GR.flat_cons,ih];rfl
theorem encNum_one:∀(y:Int),∀u∈encNum y,u.oneCell'=true:=by
 intro y u hu;simp only[encNum,List.mem_cons,List.not_mem_nil,or_false] at hu;subst hu;rfl
theorem cloneInts (a:Option Addr) (cap:Nat) (l:List Int) (w:World) (hl:l.length≤1048600) (ha:IntsAt w a l):
 Calls Try.prog 36 #[.slice a l.length cap] w fun e w'=>∃v,e= .returned v∧w'.ownsRow w.heap.size 3 1 v l.length (GR.flat encNum l)∧Below w.heap.size w w':=by
 obtain⟨i0,hi,hz0,hz1,hz2⟩:=info_parts infoInt;have q22:∀(w:World) (a:Option Addr) (n c n' c':Nat),(binOp .eql 22 (.slice a n c) (.slice none n' c')).run Try.prog w= .ok (.bool a.isNone) w:=fun w a n c n' c'=>Lib.run_eql_slice_nil w _ _ a n c n' c' Try.underlying22
 have hlit:(w.alloc (.cells #[] 3)).ownsRow w.heap.size 3 1 (.slice (some ⟨w.heap.size,0,none⟩) 0 0) 0 []:=World.ownsRow_lit (base:=w.heap.size) (e:=3) (size:=1) w #[] 0 (Nat.le_refl _) (by decide) rfl;cases a with
 |none=>
  have hl0:l=[]:=GR.none_nil ha
  subst hl0
  clear ha hlit
  go_enter Try.func36,Try.ntmps36
  go_wp2_with fail
  go_ret
  exact⟨_,rfl,World.ownsRow_nil _ _ _ _,Below.refl _ _⟩
 |some x=>
  have HN:=hide (GR.At.news encNum_length (by omega) (GR.At.below ha (below_one w (.cells #[] 3))))
  clear ha
  go_enter Try.func36,Try.ntmps36
  go_wp2_with (at_builtin;refine wpList_append_own _ rfl _ _ 22 rfl w.heap.size 3 i0 (.int .i64 0) 1 8 Try.underlying22 hi hz0 hz1 hz2 rfl (by decide) _ 0 [] rfl hlit x l.length cap (GR.flat encNum l) rfl ?c0 ?c1 ?c2 ?c3 ?c4 ?c5 ?_)
  case c0=>exact GR.flat_length encNum 1 encNum_length l
  case c1=>exact HN
  case c2=>exact GR.flat_oneCell encNum_one l
  case c3=>unfold maxLen;omega
  case c4=>omega
  case c5=>simp
  intro v' w1 hown' hgrow _
  have HO:=hide (show w1.ownsRow w.heap.size 3 1 v' l.length (GR.flat encNum l) by simpa using hown')
  have hb:Below w.heap.size w w1:=(below_one w _).grown hgrow (by simp) (fun k hk=>by cases hk;exact Nat.le_refl _)
  clear hown' hgrow hlit
  go_wp2
  go_ret
  exact⟨_,rfl,HO,hb⟩
theorem sortOwn (B:Nat) (v:Value) (l:List Int) (w:World) (hl:l.length≤1048602) (hB:B≤w.heap.size) (h:w.ownsRow B 3 1 v l.length (GR.flat encNum l)):
 Calls Try.prog 51 #[v] w fun e w'=>e= .returned (.tuple #[])∧w'.ownsRow B 3 1 v l.length (GR.flat encNum (srt l))∧Below B w w':=by
 rw [flat_encNum] at h ⊢;rcases h.2 with⟨rfl,hn⟩|⟨g,cap,cur,rfl,hg,hblk,h1,h2,h3,h4⟩
 ·have hl0:l=[]:=List.eq_nil_of_length_eq_zero hn;subst hl0;refine(AnyM.slices_Sort_int_none Try.sortL none 0 w).mono ?_;rintro e w' ⟨rfl,rfl⟩;refine⟨rfl,?_,Below.refl _ _⟩;simpa [srt] using World.ownsRow_nil _ _ _ _
 ·rw [Nat.mul_one] at h4;have hH:=holds_of_blockI hblk h4;refine(AnyM.slices_Sort_int Try.sortL g 0 cap l w hH (obj_lt hblk) (by omega)).mono ?_;rintro e w' ⟨rfl,n,os,rfl⟩;have hs:(srt l).length=l.length:=srt_length l;have h5:=ownsRow_sortedI (n:=n) (os:=os) (ts:=srt l) hs hg hblk h1 h2 h3;exact⟨rfl,h5,(Below.refl B w).grown (grownBy_sortedI _) hB (fun k hk=>by cases hk;exact hg)⟩
theorem implNeighbours (n:Nd) (A:Ads) (w:World) (hl:n.kids.length≤1048600) (ha:IntsAt w A.k n.kids):
 Calls Try.prog 37 #[ndv n A] w fun e w'=>∃v,e= .returned v∧w'.ownsRow w.heap.size 3 1 v (nbrs n).length (GR.flat encNum (srt (nbrs n)))∧Below w.heap.size w w':=by
 obtain⟨i0,hi,hz0,hz1,hz2⟩:=info_parts infoInt;have HC:=hide (cloneInts A.k A.ck n.kids (w.alloc (.cells (ndc n A) 42)) hl (GR.At.below ha (below_one w _)));have HBX:=hide (heap_alloc_new w (.cells (ndc n A) 42));have HNB:Hid ((n.par= -1→nbrs n=n.kids)∧(¬n.par= -1→nbrs n=n.kids++[n.par])):=⟨fun h=>by unfold nbrs;rw [if_pos h,List.append_nil],fun h=>by unfold nbrs;rw [if_neg h]⟩;have hln:(nbrs n).length≤1048602:=by unfold nbrs;split<;>simp<;>omega
 generalize nbrs n=NB at *;open Sa76 in exact Ya23
end Go.Proofs.Ytheiblbhlmaphaa
namespace Go.Proofs.Ytheiblbhlmaphaa
set_option maxHeartbeats 4000000
set_option maxRecDepth 100000
open Go.RowKit
open Mth
namespace Mth
theorem seen_step {l:List Sn} {F:List Int} {k:Nat} (hk:k < l.length) (hF:F.length=l.length) (h1:(l.take k).map (·.f)=F.take k) (h2:(l.take k).all snB=true) (h3:(l[k]).f=F[k]'(by omega)) (h4:snB l[k]=true):
 (l.take (k+1)).map (·.f)=F.take (k+1)∧(l.take (k+1)).all snB=true:=by
 rw [List.take_succ_eq_append_getElem hk,List.take_succ_eq_append_getElem (by omega),List.map_append,h1,List.all_append,h2];simp[h3,h4]
theorem seen_bad1 {l:List Sn} {F:List Int} {k:Nat} (hk:k < l.length) (hF:F.length=l.length) (h3:¬(l[k]).f=F[k]'(by omega)):¬l.map (·.f)=F:=by
 intro h;apply h3
 subst h;simp
theorem seen_bad2 {l:List Sn} {k:Nat} (hk:k < l.length) (h4:snB l[k]=false):l.all snB=false:=by
 rw [List.all_eq_false];exact⟨l[k],List.getElem_mem hk,by rw [h4];simp⟩
end Mth
theorem rSeen (s:Sn) (b:Option Addr) (c:Nat) (r:Bool) (wc:World) (hl:s.ids.length≤1048600) (ha:IntsAt wc b s.ids) (hr:snB s=r):∀d os,Calls Try.prog 69 #[.agg #[.int .i64 s.f,.int .i64 s.l,.slice b s.ids.length c]] (Sort.grow (redrawn wc d) os) fun e w''=>e= .returned (.bool r)∧∃p:Regrown,w''=Sort.grow (redrawn wc p.d) p.os:=fun d os=>by
 rw [←hr];exact Calls.regrown_of (implSeenOne s b c _ hl (GR.At.below ha (below_regrown wc d os)))
theorem implSeenOk (n:Nd) (A:Ads) (w:World) (hz:NdSz n 1048600) (hp:placeB n=true) (ha:NodeAt w A n):
 Calls Try.prog 56 #[ndv n A] w fun e w'=>e= .returned (.bool (toldB n))∧Below w.heap.size w w':=by
 have HA:=hide ha;have HD:=hide (told_eq hp);have HSK:=hide hz.sk;have HNB:=hide (implNeighbours n A (w.alloc (.cells (ndc n A) 42)) hz.k (GR.At.below ha.k (below_one w _)));have HBX:=hide (heap_alloc_new w (.cells (ndc n A) 42));have hls:=hz.s;have hln:(nbrs n).length≤1048602:=by have:=hz.k;unfold nbrs;split<;>simp<;>omega
 have HLS:=hide (srt_length (nbrs n));generalize srt (nbrs n)=F at *;generalize (nbrs n).length=NL at *;generalize toldB n=TT at *;clear ha hz hp;open Sa78 in exact Ya23
theorem implNodeOk (n:Nd) (A:Ads) (w:World) (hz:NdSz n 1048600) (ha:NodeAt w A n):
 Calls Try.prog 38 #[ndv n A] w fun e w'=>e= .returned (.bool (ndOk n))∧Below w.heap.size w w':=by
 have HPL:Hid (∀w1,Below w.heap.size w w1→Calls Try.prog 52 #[ndv n A] w1 fun e w'=>e= .returned (.bool (placeB n))∧Below w1.heap.size w1 w'):=fun w1 hb=>by
  have h:=implPlaced n A w1 hz.k (ha.below hb).k
  rw [place_same] at h
  exact h
 have HPU:=hide (fun w1 (hb:Below w.heap.size w w1)=>implPursesOk A.p A.cp n.pu w1 hz.p (ha.below hb).p);have HOT:=hide (fun w1 (hb:Below w.heap.size w w1) (hp:placeB n=true)=>implOutOk n A w1 hz hp (ha.below hb));have HSE:=hide (fun w1 (hb:Below w.heap.size w w1) (hp:placeB n=true)=>implSeenOk n A w1 hz hp (ha.below hb));have HRE:=hide (fun w1 (hb:Below w.heap.size w w1)=>implReqsOk n A w1 hz (ha.below hb));have HD:Hid (ndOk n=(placeB n&&psOk n.pu&&toldB n&&smB n.next&&outsB n&&reqsB n)):=rfl;have HBX:=hide (heap_alloc_new w (.cells (ndc n A) 42));generalize placeB n=PL at *;generalize psOk n.pu=PS at *;generalize toldB n=TD at *;generalize outsB n=OT at *;generalize reqsB n=RQ at *;generalize ndOk n=TT at *;clear ha hz;open Sa77 in exact Ya23
end Go.Proofs.Ytheiblbhlmaphaa
