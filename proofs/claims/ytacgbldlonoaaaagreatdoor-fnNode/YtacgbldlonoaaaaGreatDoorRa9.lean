/- Parts. -/
import Derived.Test.YtacgbldlonoaaaaGreatDoorRa5
import Derived.Test.YtacgbldlonoaaaaGreatDoorRa8
namespace Go.Proofs.YtacgbldlonoaaaaGreatDoor
set_option maxHeartbeats 4000000
set_option maxRecDepth 100000
open Go.RowKit
open Mth
theorem oD {P:Program} (w:World) {ops:Array Oper} {o:Oper} {a:Act} {K:Act→World→Prop} {Q:Exit→Act→World→Prop} {E:Prop} (hgd:o.guard=none) (s x:Operand) (t:TypeId)
 (ho:o.op= .call {callee:= .builtin .append,args:=#[s,x],argTypes:=#[t,t]})
 (base:Nat) (e:TypeId) (i:TypeInfo) (z:Value) (size bytes:Nat) (ht:P.underlying t=some (.slice e)) (hi:P.info? e=some i) (hz:i.zero=some z)
 (hsize:i.size=size) (hby:i.bytes=bytes) (hzs:z.cells.size=size) (hsz:0 < size)
 (v:Value) (n:Nat) (xs:List Value) (hs:a.eval s=v) (hown:w.ownsRow base e size v n xs)
 (ad:Addr) (m c:Nat) (news:List Value) (hx:a.eval x= .slice (some ad) m c) (hl:news.length=m*size) (hnews:∀j u,news[j]?=some u→w.cell? (ad.add j)=some u) (h1:∀u∈news,u.oneCell'=true)
 (h63:n+m≤maxLen) (hbytes:(n+m)*bytes≤140737488355328) (hbase:base≤w.heap.size)
 (h:∀v' w',w'.ownsRow base e size v' (n+m) (xs++news)→w.grownBy w' v.ownBlock→(v'= .slice none 0 0↔v= .slice none 0 0∧m=0)→K (a.put o.dst v') w'):
 if Region.wanted o (yielded ops a.tmps)=true then Oper.wp P o a w K Q else E:=by
 exact am5
theorem Ee {w w':World} {B:Nat} {row:Option Nat} (hk:w.grownBy w' row) (hg:∀k,row=some k→B≤k) (hB:B≤w.heap.size):Below B w w':=⟨hk.os,hk.tape,hk.output,hk.size,fun k hl=>hk.block k (by omega) (fun e=>by have:=hg k e.symm;omega)⟩
theorem GR.At.heap {α:Type} {enc:α→List Value} {sz:Nat} {w w1:World} {a:Option Addr} {l:List α} (h:GR.At enc sz w a l) (e:w1.heap=w.heap):GR.At enc sz w1 a l:=fun i hi=>by
 obtain⟨g,off,e0,hg,hc⟩:=h i hi;exact⟨g,off,e0,by rw [e];exact hg,fun j hj=>(World.cell?_of_block (w:=w) (by rw [e])).trans (hc j hj)⟩
theorem anC {w:World} {g h i:Nat} {u b0 b1 b2 b3 b4 b5 b6:Value} (hne:g≠h) (e:w.cell? ⟨h,i,none⟩=some u):
 (((((((w.setCell ⟨g,0,none⟩ b0).setCell ⟨g,1,none⟩ b1).setCell ⟨g,2,none⟩ b2).setCell ⟨g,3,none⟩ b3).setCell ⟨g,4,none⟩ b4).setCell ⟨g,5,none⟩ b5).setCell ⟨g,6,none⟩ b6).cell? ⟨h,i,none⟩=some u:=by
 rw [World.cell?_setCell_far _ _ _ _ hne,World.cell?_setCell_far _ _ _ _ hne,World.cell?_setCell_far _ _ _ _ hne,World.cell?_setCell_far _ _ _ _ hne,World.cell?_setCell_far _ _ _ _ hne,World.cell?_setCell_far _ _ _ _ hne,World.cell?_setCell_far _ _ _ _ hne];exact e
def wJ (w:World) (L:List Mg) (e:Ending) (w':World):Prop:=∃a c,e= .returned (.slice a L.length c)∧∃g,GR.W gX 7 w' a g L∧(∀x∈fp g L,w.heap.size≤x∧x < w'.heap.size)∧Below w.heap.size w w'
theorem E8 (n:Nd) (A:bE) (s:jm) (w:World) (hl:n.out.length≤1048600) (ha:SentAt w A.o n.out):
 Calls Tryz.prog 51 #[gu n A,Xe s] w fun e w'=>e= .returned (nX (lG n s))∧Below w.heap.size w w':=by
 obtain⟨hP,hR,hO,hB⟩:=D8 w (.cells (fZ n A) 30) (.cells #[.int .i64 s.i,.int .i64 s.t,.string s.k,.int .i64 s.n] 95) (.cells zm7 32);have Pe:Hid (lG n s=⟨1,n.id,s.t,s.i,qP n.out s.t s.i,s.k,s.n⟩):=rfl;have HLW:=hide (fun W (hb:Below w.heap.size w W) w1 (h:w1.heap=W.heap)=>Wi n A s.t s.i w1 hl (GR.At.heap (GR.At.below ha hb) h));rw [ah Pe];generalize qP n.out s.t s.i=LO at *;open agb in exact wS
end Go.Proofs.YtacgbldlonoaaaaGreatDoor
namespace Go.Proofs.YtacgbldlonoaaaaGreatDoor
set_option maxHeartbeats 4000000
set_option maxRecDepth 100000
open Go.RowKit
open Mth
theorem wJ.of_own {w w':World} {B:Nat} {v:Value} {L:List Mg} {n:Nat} (hn:n=L.length) (h:w'.ownsRow B 32 7 v n (GR.flat gX L)) (hB:w.heap.size≤B) (hb:Below w.heap.size w w'):wJ w L (.returned v) w':=by
 subst hn;obtain⟨a,c,g,rfl,hW,hr,_⟩:=GR.W.of_own iR h;exact⟨a,c,rfl,g,hW,fun x hx=>⟨Nat.le_trans hB (hr x hx).1,(hr x hx).2⟩,hb⟩
theorem fV {α:Type} (enc:α→List Value) (l:List α) (x:α):GR.flat enc (l++[x])=GR.flat enc l++enc x:=by
 rw [GR.flat_append];simp[GR.flat]
theorem Tv (n:Nd) (A:bE) (w:World) (hsz:eH n 1048600) (ha:dQ w A n):
 Calls Tryz.prog 17 #[gu n A] w (wJ w (Te n)):=by
 obtain⟨i0,hi,hz0,hz1,hz2⟩:=info_parts Et;have ku:=hide (fun W (hb:Below w.heap.size w W)=>Ar n A W hsz (ha.below hb));have za:=hide (fun s W (hb:Below w.heap.size w W) w1 (h:w1.heap=W.heap)=>E8 n A s w1 hsz.o (GR.At.heap (GR.At.below ha.o hb) h));obtain⟨L,hL⟩:∃L,Te n=L:=⟨_,rfl⟩;have FX:Hid (L=if dG n then n.out.map (lG n) else[]):=hL.symm;have JC:=hide (heap_alloc_new w (.cells (fZ n A) 30));have HAO:=hide ha.o;have hlo:=hsz.o;rw [hL];clear hL;generalize dG n=OK at *;generalize lG n=PM at *;clear ha hsz;open agc in exact wS
end Go.Proofs.YtacgbldlonoaaaaGreatDoor
namespace Go.Proofs.YtacgbldlonoaaaaGreatDoor
set_option maxHeartbeats 1000000
set_option maxRecDepth 100000
open Go.RowKit
theorem infoByte:(Tryz.prog.info? 5).map (fun i=>(i.zero,i.size,i.bytes))=some (some (.int .u8 0),1,1):=by kernel_rfl
theorem sizeByte:(Tryz.prog.info? 5).map (·.size)=some 1:=by kernel_rfl
theorem cellsByte:Tryz.prog.cellsOf 5=1:=by kernel_rfl
theorem Bc (w:World):Calls Tryz.prog 161 #[.string ByteArray.empty] w fun e w'=>e= .returned (.string ByteArray.empty)∧w=w':=by
 go_enter Tryz.func161,Tryz.ntmps161
 go_wp2
 go_ret;exact⟨rfl,rfl⟩
theorem Kt (n:Nat) (hn:n≤281474976710656):∃M:Array Value,M.size=n∧∀W:World,(Instr.makeSlice 22 (.int .i64 (n:Int)) (.int .i64 (n:Int))).run Tryz.prog W= .ok (.slice (some ⟨W.heap.size,0,none⟩) n n) (W.alloc (.cells M 5)):=by
 obtain⟨i0,hi,hz0,hz1,hz2⟩:=info_parts infoByte;refine⟨madeCells (Value.int .u8 0).cells (((n:Nat):Int).toNat*i0.size),by rw [size_madeCells,hz1];simp,fun W=>?_⟩;simpa using run_make (P:=Tryz.prog) W 22 5 i0 (.int .u8 0) Tryz.underlying22 hi hz0 .i64 .i64 (n:Int) (n:Int) (by omega) (by omega) (by rw [hz2];omega) (by omega)
theorem Rc (w:World) (s:ByteArray) (M:Array Value) (hM:M.size=s.size):∃Y:Array Value,Y.toList=s.data.toList.map bv∧
 (Builtin.copy_ #[22,9] 3 #[.slice (some ⟨w.heap.size,0,none⟩) s.size s.size,.string s]).run Tryz.prog (w.alloc (.cells M 5))= .ok (goInt s.size) ((w.alloc (.cells M 5)).setRow w.heap.size Y):=by
 have h:=Lib.run_copy_row_string (P:=Tryz.prog) (w.alloc (.cells M 5)) 22 9 3 5 w.heap.size 0 s.size s.size s M 5 Tryz.underlying22 sizeByte (heap_alloc_new w _) (Nat.le_refl _) (by omega);refine⟨_,?_,h⟩;rw [List.toList_toArray,List.take_zero,List.nil_append,List.drop_of_length_le (by rw [Array.length_toList];omega),List.append_nil];rfl
theorem Vq (s:ByteArray) (w:World) (h0:0 < s.size) (hlim:s.size≤281474976710656):
 Calls Tryz.prog 161 #[.string s] w fun e w'=>e= .returned (.string s)∧Below w.heap.size w w':=by
 obtain⟨M,hMs,hmk⟩:=Kt s.size hlim;obtain⟨Y,hY,hcp⟩:=Rc w s M hMs;have hYs:Y.size=s.size:=by rw [←Array.length_toList,hY];simp
 have hg:((w.alloc (.cells M 5)).setRow w.heap.size Y).heap[w.heap.size]?=some (.cells Y 5 (0,0)):=setRow_heap _ _ M _ 5 (0,0) (heap_alloc_new w _)
 have hus:=Lib.run_unsafeString_row (P:=Tryz.prog) ((w.alloc (.cells M 5)).setRow w.heap.size Y) 217 3 9 5 Tryz.underlying217 cellsByte w.heap.size Y.size (by unfold World.shape?;rw [hg]) s.data.toList
  (fun e=>by have:=gU s;rw [e] at this;simp at this;omega) (by rw [gU];omega) (by rw [gU];omega)
  (fun j x hx=>Lib.cells_of_row hg Y.size j _ (by rw [List.take_of_length_le (by rw [Array.length_toList];exact Nat.le_refl _),hY];simp[bv,hx]))
 rw [gU,Lib.mk_data] at hus;have hne:((s.size:Int) == 0)=false:=beq_eq_false_iff_ne.2 (by omega);have hlt:(0:Int) < (s.size:Int):=by omega
 clear hY hMs hg;go_enter Tryz.func161,Tryz.ntmps161
 go_wp2
 go_ret;exact⟨rfl,Lib.below_freeze (below_setRow ((Below.refl _ w).alloc (Nat.le_refl _) _) (Nat.le_refl _) Y) (p:=⟨w.heap.size,0,none⟩) (Nat.le_refl _) _⟩
theorem clone (s:ByteArray) (w:World) (hlim:s.size≤281474976710656):
 Calls Tryz.prog 102 #[.string s] w fun e w'=>e= .returned (.string s)∧Below w.heap.size w w':=by
 by_cases h0:0 < s.size
 ·go_enter Tryz.func102,Tryz.ntmps102
  go_wp2_with (go_at_call 161;refine(Vq s _ h0 hlim).mono ?_;rintro e w' ⟨rfl,hbel⟩)
  go_ret;exact⟨rfl,hbel⟩
 ·obtain rfl:=eq_empty s (by omega);go_enter Tryz.func102,Tryz.ntmps102
  go_wp2_with (go_at_call 161;refine(Bc _).mono ?_;rintro e w' ⟨rfl,rfl⟩)
  go_ret;exact⟨rfl,Below.refl _ _⟩
end Go.Proofs.YtacgbldlonoaaaaGreatDoor
namespace Go.Proofs.YtacgbldlonoaaaaGreatDoor
set_option maxHeartbeats 4000000
set_option maxRecDepth 100000
open Go.RowKit
open Mth
abbrev FE (n:Nd) (A:bE) (v:Value):Array Value:=#[.int .i64 n.id,.int .i64 n.par,.slice A.k n.kids.length A.ck,.int .i64 n.next,.slice A.p n.pu.length A.cp,.slice A.o n.out.length A.co,.slice A.s n.seen.length A.cs,.int .i64 n.old,.slice A.r n.reqs.length A.cr,v]
theorem gY {w:World} {g:Nat} {v0 v1 v2 v3 v4 v5 v6 v7 v8 v9:Value} {t:TypeId} (h:w.heap[g]?=some (.cells #[v0,v1,v2,v3,v4,v5,v6,v7,v8,v9] t (0,0))):
 w.cell? ⟨g,0,none⟩=some v0∧w.cell? ⟨g,1,none⟩=some v1∧w.cell? ⟨g,2,none⟩=some v2∧w.cell? ⟨g,3,none⟩=some v3∧w.cell? ⟨g,4,none⟩=some v4∧w.cell? ⟨g,5,none⟩=some v5∧w.cell? ⟨g,6,none⟩=some v6∧w.cell? ⟨g,7,none⟩=some v7∧w.cell? ⟨g,8,none⟩=some v8∧w.cell? ⟨g,9,none⟩=some v9:=by
 have hc:∀i,w.cell? ⟨g,i,none⟩=#[v0,v1,v2,v3,v4,v5,v6,v7,v8,v9][i]?:=fun i=>cell_of_row w g i _ t (0,0) h
 exact⟨hc 0,hc 1,hc 2,hc 3,hc 4,hc 5,hc 6,hc 7,hc 8,hc 9⟩
structure WS (w2 wr:World) (wb:Nat) (n:Nd) (A:bE) (v:Value) (L:List Mg):Prop where
 keep:aC [wb] w2 wr
 blk:wr.heap[wb]?=some (.cells (FE n A v) 74 (0,0))
 own:wr.ownsRow w2.heap.size 32 7 v L.length (GR.flat gX L)
 lt:wb < w2.heap.size
theorem WS.step {w2 wr w':World} {wb:Nat} {n:Nd} {A:bE} {v:Value} {L:List Mg} (h:WS w2 wr wb n A v L) (hb:Below wr.heap.size wr w'):WS w2 w' wb n A v L:=
 ⟨h.keep.trans (aC.of_below hb),aj h.blk hb,GR.own_below h.own hb,h.lt⟩
theorem WS.set {w2 wr:World} {wb g i:Nat} {n:Nd} {A:bE} {v u:Value} {L:List Mg} (h:WS w2 wr wb n A v L) (hg:w2.heap.size≤g) (hv:v.ownBlock≠some g):WS w2 (wr.setCell ⟨g,i,none⟩ u) wb n A v L:=by
 have hlt:=h.lt;refine⟨?_,?_,?_,hlt⟩
 ·refine⟨h.keep.os,h.keep.tape,h.keep.output,by have:=h.keep.size;simpa [World.setCell] using this,fun k hk hkn=>?_⟩;have hkg:k≠g:=by omega
  rw [Below.heap_setCell _ _ _ _ hkg];exact h.keep.block k hk hkn
 ·have hkg:wb≠g:=by omega
  rw [Below.heap_setCell _ _ _ _ hkg];exact h.blk
 ·refine h.own.kept (row:=some g) ⟨rfl,rfl,rfl,by simp[World.setCell],fun k _ hk=>Below.heap_setCell _ _ _ _ (fun e=>hk (by rw [e]))⟩ ?_;cases hv':v.ownBlock with
  |none=>exact .inl rfl
  |some k=>exact .inr (fun e=>hv (by rw [hv',e]))
theorem WS.app {w2 wr w6:World} {wb:Nat} {n:Nd} {A:bE} {v v':Value} {L:List Mg} {o:Obj} (h:WS w2 wr wb n A v L) (m:Mg)
 (hown:w6.ownsRow w2.heap.size 32 7 v' (L.length+1) (GR.flat gX L++gX m)) (hg:(wr.alloc o).grownBy w6 v.ownBlock):
 w6.heap[wb]?=some (.cells (FE n A v) 74 (0,0))∧WS w2 (w6.setCell ⟨wb,9,none⟩ v') wb n A v' (L++[m]):=by
 have hvb:∀k,v.ownBlock=some k→w2.heap.size≤k:=fun k hk=>(h.own.lt k hk).1
 have hlt:=h.lt;have hsz:=h.keep.size
 have hblk6:w6.heap[wb]?=some (.cells (FE n A v) 74 (0,0)):=by
  rw [hg.block wb (by simp;omega) (fun e=>by have:=hvb wb e.symm;omega),Below.heap_alloc _ _ _ (by omega)];exact h.blk
 have hne:∀k,v'.ownBlock=some k→k≠wb:=fun k hk=>by have:=(hown.lt k hk).1;omega
 refine⟨hblk6,?_,?_,?_,hlt⟩
 ·refine⟨hg.os.trans h.keep.os,hg.tape.trans h.keep.tape,hg.output.trans h.keep.output,?_,fun k hk hkn=>?_⟩
  ·have:=hg.size;simp[World.setCell] at this ⊢;omega
  ·have hkn':k≠wb:=by simpa using hkn
   exact ano
 ·exact bg hblk6 9 v'
 ·rw [List.length_append,fV];refine hown.kept (row:=some wb) ⟨rfl,rfl,rfl,by simp[World.setCell],fun k _ hk=>Below.heap_setCell _ _ _ _ (fun e=>hk (by rw [e]))⟩ ?_;exact Zm
theorem OE {w W w6:World} {wb:Nat} {v v6:Value} {o:Obj} (hb:Below w.heap.size w W) (hg:(W.alloc o).drew.grownBy w6 v.ownBlock):aC (wb::v.ownBlock.toList) w (w6.setCell ⟨wb,9,none⟩ v6):=by
 have hs:=hb.size;have hs6:=hg.size;refine⟨hg.os.trans hb.os,hg.tape.trans hb.tape,hg.output.trans hb.output,?_,fun k hk hkn=>?_⟩
 ·simp[World.setCell] at hs6 ⊢;omega
 ·have h1:k≠wb:=fun e=>hkn (by rw [e];exact List.mem_cons_self)
  have h2:v.ownBlock≠some k:=fun e=>hkn (by rw [e];simp)
  have h3:(W.alloc o).drew.heap[k]?=W.heap[k]?:=Below.heap_alloc _ _ _ (by omega);rw [Below.heap_setCell _ _ _ _ h1,hg.block k (by simp;omega) (fun e=>h2 e.symm),h3];exact hb.block k hk
theorem zq (w:World):Below w.heap.size w w.drew:=⟨rfl,rfl,rfl,Nat.le_refl _,fun _ _=>rfl⟩
theorem aod (w2 w:World) (wb:Nat) (n:Nd) (A:bE) (v:Value) (L:List Mg) (m:Mg) (hk:m.k.size≤1048600) (hL:L.length≤2097200) (h:WS w2 w wb n A v L):
 Calls Tryz.prog 125 #[.pointer (some ⟨wb,0,none⟩),nX m] w fun e w'=>e= .returned (.tuple #[])∧∃v',WS w2 w' wb n A v' (L++[m])∧aC (wb::v.ownBlock.toList) w w':=by
 obtain⟨i0,hi,hz0,hz1,hz2⟩:=info_parts Et;have jy:=hide (heap_alloc_new w (.cells #[.int .i64 m.K,.int .i64 m.F,.int .i64 m.T,.int .i64 m.I,.int .i64 m.L,.string m.k,.int .i64 m.N] 32));have HAP:Hid (∀{wr w6:World} {v':Value} {o:Obj},WS w2 wr wb n A v L→w6.ownsRow w2.heap.size 32 7 v' (L.length+1) (GR.flat gX L++gX m)→(wr.alloc o).grownBy w6 v.ownBlock→w6.heap[wb]?=some (.cells (FE n A v) 74 (0,0))∧WS w2 (w6.setCell ⟨wb,9,none⟩ v') wb n A v' (L++[m])):=fun h1 h2 h3=>h1.app m h2 h3
 have HV:Hid (∀k,v.ownBlock=some k→k < w.heap.size):=fun k e=>(h.own.lt k e).2
 have HS:=hide h;have hsz:=h.keep.size;have hwb:=h.lt;clear h;obtain⟨va,vc,hv,_⟩:=GR.own_at (enc:=gX) (sz:=7) (l:=L) iR HS.own;subst hv;obtain⟨mK,mF,mT,mI,mL,mk,mN⟩:=m;dsimp only at hk jy;go_enter Tryz.func125,Tryz.ntmps125
 go_wp2_with fail;refine(clone mk _ (by omega)).mono ?_;rintro e w1 ⟨rfl,hb1⟩;have yA:=hide (aj jy hb1);have TW:=hide ((HS.step (au w _)).step hb1);open aiJ in exact XD
end Go.Proofs.YtacgbldlonoaaaaGreatDoor
namespace Go.Proofs.YtacgbldlonoaaaaGreatDoor.Mth
open Go.Lib (decDigits itoa)
end Go.Proofs.YtacgbldlonoaaaaGreatDoor.Mth
namespace Go.Proofs.YtacgbldlonoaaaaGreatDoor
open Go.RowKit
open Go.Lib (decDigits itoa)
end Go.Proofs.YtacgbldlonoaaaaGreatDoor
namespace Go.Proofs.YtacgbldlonoaaaaGreatDoor
open Go.RowKit
open Go.Lib (decDigits)
end Go.Proofs.YtacgbldlonoaaaaGreatDoor
namespace Go.Proofs.YtacgbldlonoaaaaGreatDoor
open Go.RowKit
open Mth
theorem oz {g k:Nat}:∀(vs:List Value) (w:World) (o:Nat),k < o∨o+vs.length≤k→(GR.setW w g o vs).cell? ⟨g,k,none⟩=w.cell? ⟨g,k,none⟩:=by
 exact am6
theorem yH {g:Nat}:∀(vs:List Value) (w:World) (o:Nat),(∀j,j < vs.length→∃v,w.cell? ⟨g,o+j,none⟩=some v)→∀j,j < vs.length→(GR.setW w g o vs).cell? ⟨g,o+j,none⟩=vs[j]?:=by
 intro vs;induction vs with
 |nil=>intro w o _ j hj;simp at hj
 |cons v vs ih=>
  intro w o h j hj
  cases j with
  |zero=>
   obtain⟨v0,hv0⟩:=h 0 (by simp)
   rw [Nat.add_zero] at hv0 ⊢
   refine(oz vs (w.setCell ⟨g,o,none⟩ v) (o+1) (by omega)).trans ?_
   rw [World.cell?_setCell_same _ _ _ hv0]
   rfl
  |succ j=>
   have h2:=ih (w.setCell ⟨g,o,none⟩ v) (o+1) (fun j' hj'=>by
    obtain⟨v1,hv1⟩:=h (j'+1) (by simpa using hj')
    refine⟨v1,(World.cell?_setCell_other _ _ _ _ (by simp<;>omega)).trans ?_⟩
    rw [←hv1,show o+1+j'=o+(j'+1) by omega]) j (by simpa using hj)
   rw [show o+1+j=o+(j+1) by omega] at h2
   exact h2
theorem EM {g k:Nat}:∀(vs:List Value) (w:World) (o:Nat),(GR.setW w g o vs).frozen? ⟨g,k,none⟩=w.frozen? ⟨g,k,none⟩:=by
 exact anw
theorem Kz {g:Nat}:∀(vs:List Value) (w:World) (o:Nat),(GR.setW w g o vs).heap.size=w.heap.size:=by
 exact Y6
theorem aL {g:Nat}:∀(vs:List Value) (w:World) (o:Nat),aC [g] w (GR.setW w g o vs):=by
 intro vs;induction vs with
 |nil=>intro w o;exact aC.refl _ _
 |cons v vs ih=>intro w o;exact(aC.set v).trans (ih (w.setCell ⟨g,o,none⟩ v) (o+1))
theorem GR.W.set {α:Type} {enc:α→List Value} {sz:Nat} {w:World} {a:Option Addr} {g:Nat} {l:List α} (hs:∀x,(enc x).length=sz) (h:GR.W enc sz w a g l) (k:Nat) (x:α) (hk:k < l.length):GR.W enc sz (GR.setW w g (k*sz) (enc x)) a g (l.set k x):=fun i hi=>by
 have hi':i < l.length:=by simpa using hi
 obtain⟨e,hg,hc⟩:=h i hi';refine⟨e,by rw [Kz];exact hg,fun j hj=>⟨?_,by rw [EM];exact(hc j hj).2⟩⟩;by_cases hik:i=k
 ·subst hik
  rw [yH (enc x) w (i*sz) (fun j' hj'=>by
   have hj4:j' < sz:=by rw [hs] at hj';exact hj'
   have h1:=(hc j' hj4).1
   rw [List.getElem?_eq_getElem (by rw [hs];exact hj4)] at h1
   exact⟨_,h1⟩) j (by rw [hs];exact hj)]
  simp
 ·have hcase:i*sz+j < k*sz∨k*sz+sz≤i*sz+j:=by
   rcases Nat.lt_or_gt_of_ne hik with h'|h'
   ·left
    have:=Nat.mul_le_mul_right sz (show i+1≤k by omega);exact QZ
   ·right
    have:=Nat.mul_le_mul_right sz (show k+1≤i by omega);exact QZ
  rw [oz (enc x) w (k*sz) (by rw [hs];exact hcase),(hc j hj).1,List.getElem_set_ne (by omega)]
theorem JY {α β:Type} {g:Nat} {l:List α} {l':List β} (h:l.length=l'.length):fp g l=fp g l':=by
 unfold fp;cases l with
 |nil=>cases l' with|nil=>rfl|cons y l'=>simp at h
 |cons x l=>cases l' with|nil=>simp at h|cons y l'=>rfl
def GR.C (w:World) (a:Option Addr) (g:Nat) (cs:List Value):Prop:=∀j (hj:j < cs.length),a=some ⟨g,0,none⟩∧g < w.heap.size∧w.cell? ⟨g,j,none⟩=some cs[j]∧w.frozen? ⟨g,j,none⟩=false
theorem GR.C.set {w:World} {a:Option Addr} {g:Nat} {cs:List Value} (h:GR.C w a g cs) (k:Nat) (v:Value):GR.C (w.setCell ⟨g,k,none⟩ v) a g (cs.set k v):=fun j hj=>by
 have hj':j < cs.length:=by simpa using hj
 obtain⟨e,hg,hc,hf⟩:=h j hj';refine⟨e,by simpa [World.setCell] using hg,?_,by rw [World.frozen?_setCell];exact hf⟩;by_cases hjk:j=k
 ·subst hjk;rw [World.cell?_setCell_same _ _ _ hc];simp
 ·rw [World.cell?_setCell_other _ _ _ _ (by simp<;>omega),hc,List.getElem_set_ne (by omega)]
theorem GR.C.below {w w':World} {a:Option Addr} {g:Nat} {cs:List Value} (h:GR.C w a g cs) (hb:Below w.heap.size w w'):GR.C w' a g cs:=fun j hj=>by
 obtain⟨e,hg,hc,hf⟩:=h j hj;exact⟨e,Nat.lt_of_lt_of_le hg hb.size,(hb.cell (p:=⟨g,j,none⟩) hg).trans hc,(hb.frozen (p:=⟨g,j,none⟩) hg).trans hf⟩
theorem GR.W.toC {α:Type} {enc:α→List Value} {sz:Nat} {w:World} {a:Option Addr} {g:Nat} {l:List α} (hs:∀x,(enc x).length=sz) (hz:0 < sz) (h:GR.W enc sz w a g l):GR.C w a g (GR.flat enc l):=fun j hj=>by
 have hj2:j < l.length*sz:=by rwa [GR.flat_length enc sz hs] at hj
 have hq:j / sz < l.length:=Nat.div_lt_of_lt_mul (by rw [Nat.mul_comm];exact hj2);have hr:j % sz < sz:=Nat.mod_lt _ hz;have ej:j / sz*sz+j % sz=j:=Nat.div_add_mod' j sz;obtain⟨e,hg,hc⟩:=h (j / sz) hq;obtain⟨h1,h2⟩:=hc (j % sz) hr;have hf:=GR.flat_at enc sz hs l (j / sz) hq (j % sz) hr;rw [ej] at h1 h2 hf;exact⟨e,hg,by rw [h1,←hf,List.getElem?_eq_getElem hj],h2⟩
theorem GR.C.toW {α:Type} {enc:α→List Value} {sz:Nat} {w:World} {a:Option Addr} {g:Nat} {l:List α} (hs:∀x,(enc x).length=sz) (hz:0 < sz) (h:GR.C w a g (GR.flat enc l)):GR.W enc sz w a g l:=fun i hi=>by
 have hlt:∀j,j < sz→i*sz+j < (GR.flat enc l).length:=fun j hj=>by
  rw [GR.flat_length enc sz hs]
  have:=Nat.mul_le_mul_right sz (show i+1≤l.length by omega)
  rw [Nat.add_mul,Nat.one_mul] at this
  omega
 refine⟨(h (i*sz+0) (hlt 0 hz)).1,(h (i*sz+0) (hlt 0 hz)).2.1,fun j hj=>?_⟩;obtain⟨_,_,hc,hf⟩:=h (i*sz+j) (hlt j hj);refine⟨?_,hf⟩;rw [hc,←GR.flat_at enc sz hs l i hi j hj,List.getElem?_eq_getElem]
end Go.Proofs.YtacgbldlonoaaaaGreatDoor
namespace Go.Proofs.YtacgbldlonoaaaaGreatDoor
open Go.RowKit
open Mth
theorem GR.W.fourReq {w:World} {a:Option Addr} {g:Nat} {l:List Rq} (h:GR.W aK 4 w a g l) (i:Nat) (hi:i < l.length):a=some ⟨g,0,none⟩∧g < w.heap.size∧(w.cell? ⟨g,i*4,none⟩=some (.int .i64 l[i].no)∧w.cell? ⟨g,i*4+1,none⟩=some (.string l[i].k)∧w.cell? ⟨g,i*4+2,none⟩=some (.int .i64 l[i].n)∧w.cell? ⟨g,i*4+3,none⟩=some (.int .i64 l[i].s))∧w.frozen? ⟨g,i*4,none⟩=false∧w.frozen? ⟨g,i*4+1,none⟩=false∧w.frozen? ⟨g,i*4+2,none⟩=false∧w.frozen? ⟨g,i*4+3,none⟩=false:=by
 exact am0
theorem GR.W.one {w:World} {a:Option Addr} {g:Nat} {l:List Int} (h:GR.W aR 1 w a g l) (i:Nat) (hi:i < l.length):a=some ⟨g,0,none⟩∧g < w.heap.size∧w.cell? ⟨g,i,none⟩=some (.int .i64 l[i])∧w.frozen? ⟨g,i,none⟩=false:=by
 obtain⟨e,hg,hc⟩:=h i hi;exact⟨e,hg,by simpa using(hc 0 (by omega)).1,by simpa using(hc 0 (by omega)).2⟩
end Go.Proofs.YtacgbldlonoaaaaGreatDoor
namespace Go.Proofs.YtacgbldlonoaaaaGreatDoor
open Go.RowKit
open Mth
theorem eO.put {w:World} {a:Option Addr} {g:Nat} {I:Nat→Nat} {l:List Sn} (h:eO w a g I l) (k:Nat) (hk:k < l.length) (f lo:Int) (hne:∀x∈nM I l,x≠g):
 eO ((w.setCell ⟨g,k*3,none⟩ (.int .i64 f)).setCell ⟨g,k*3+1,none⟩ (.int .i64 lo)) a g I (l.set k ⟨f,lo,l[k].ids⟩):=by
 obtain⟨T,hT,hl,hr⟩:=h;obtain⟨b,c,ht,hi2⟩:=hr k hk;have Jw:k < T.length:=by omega
 have htk:T[k]=⟨l[k].f,l[k].l,.slice b l[k].ids.length c⟩:=by
  rw [List.getElem?_eq_getElem Jw] at ht;exact Option.some.inj ht
 have hC:=((GR.W.toC bC (by omega) hT).set (k*3) (.int .i64 f)).set (k*3+1) (.int .i64 lo);have hf:=GR.flat_set cu 3 bC T k ⟨f,lo,.slice b l[k].ids.length c⟩ Jw;have h3:(((GR.flat cu T).set (k*3) (.int .i64 f)).set (k*3+1) (.int .i64 lo)).set (k*3+2) (.slice b l[k].ids.length c)=GR.flat cu (T.set k ⟨f,lo,.slice b l[k].ids.length c⟩):=hf;have hat:=GR.flat_at cu 3 bC T k Jw 2 (by omega);rw [htk] at hat
 have h4:((GR.flat cu T).set (k*3) (.int .i64 f)).set (k*3+1) (.int .i64 lo)=GR.flat cu (T.set k ⟨f,lo,.slice b l[k].ids.length c⟩):=by
  rw [←h3];apply List.ext_getElem?
  intro j;by_cases hj:j=k*3+2
  ·subst hj;have hlt:k*3+2 < (GR.flat cu T).length:=by rw [GR.flat_length cu 3 bC];omega
   rw [List.getElem?_set_self (by simpa using hlt),List.getElem?_set_ne (by omega),List.getElem?_set_ne (by omega),hat];rfl
  ·rw [List.getElem?_set_ne (i:=k*3+2) (by omega)]
 rw [h4] at hC;have hK:aC [g] w ((w.setCell ⟨g,k*3,none⟩ (.int .i64 f)).setCell ⟨g,k*3+1,none⟩ (.int .i64 lo)):=(aC.set _).trans (aC.set _);refine⟨T.set k ⟨f,lo,.slice b l[k].ids.length c⟩,GR.C.toW bC (by omega) hC,by simpa using hl,fun i hi=>?_⟩;have hi':i < l.length:=by simpa using hi
 by_cases hik:i=k
 ·subst hik;refine⟨b,c,?_,?_⟩
  ·rw [List.getElem?_set_self Jw];simp
  ·rw [List.getElem_set_self];exact hi2.keeps hK (fun x hx=>by simpa using hne x (iL hi' x hx))
 ·obtain⟨b',c',ht',hi3⟩:=hr i hi';refine⟨b',c',?_,?_⟩
  ·rw [List.getElem?_set_ne (by omega),ht',List.getElem_set_ne (by omega)]
  ·rw [List.getElem_set_ne (by omega)];exact hi3.keeps hK (fun x hx=>by simpa using hne x (iL hi' x hx))
theorem Rj {I:Nat→Nat} {l:List Sn} (hnd:(nM I l).Nodup) {i k:Nat} (hi:i < l.length) (hk:k < l.length) (hik:i≠k) (h1:0 < l[i].ids.length) (h2:0 < l[k].ids.length):I i≠I k:=by
 intro he;have hd:∀j (hj:j < l.length),l.getD j default=l[j]:=fun j hj=>by rw [List.getD_eq_getElem?_getD,List.getElem?_eq_getElem hj];rfl
 have key:∀a b,a < b→b < l.length→0 < (l.getD a default).ids.length→0 < (l.getD b default).ids.length→I a≠I b:=by
  intro a b hab hb ha1 hb1 hI;unfold nM at hnd
  have e1:List.range l.length=List.range b++(List.range (l.length - b)).map (b+·):=by
   rw [←List.range_add];congr 1
   omega
  rw [e1,List.flatMap_append,List.nodup_append] at hnd;refine hnd.2.2 (I a) ?_ (I b) ?_ hI
  ·rw [List.mem_flatMap];exact⟨a,List.mem_range.2 hab,dz ha1⟩
  ·rw [List.mem_flatMap];exact⟨b,List.mem_map.2 ⟨0,List.mem_range.2 (by omega),by simp⟩,dz hb1⟩
 rcases Nat.lt_or_gt_of_ne hik with h|h
 ·exact key i k h hk (by rw [hd i hi];exact h1) (by rw [hd k hk];exact h2) he
 ·exact key k i h hi (by rw [hd k hk];exact h2) (by rw [hd i hi];exact h1) he.symm
theorem eO.ids {w w':World} {a:Option Addr} {g:Nat} {I:Nat→Nat} {l:List Sn} (h:eO w a g I l) (k:Nat) (hk:k < l.length) (b:Option Addr) (c:Nat) (ids:List Int) (hb:w.cell? ⟨g,k*3+2,none⟩=some (.slice b l[k].ids.length c)) (hlen:ids.length=l[k].ids.length) (hw:GR.W aR 1 w' b (I k) ids) (hK:aC (fp (I k) l[k].ids) w w')
 (hne:∀x∈nM I l,x≠g) (hnd:(nM I l).Nodup):eO w' a g I (l.set k ⟨l[k].f,l[k].l,ids⟩):=by
 obtain⟨T,hT,hl,hr⟩:=h;have Jw:k < T.length:=by omega
 have aqp:∀x∈fp (I k) l[k].ids,x∈nM I l:=iL hk
 have hT':GR.W cu 3 w' a g T:=hT.keeps hK (fun x hx hx2=>by
  rw [(gD hx).1] at hx2
  exact hne _ (aqp _ hx2) rfl)
 refine⟨T,hT',by simpa using hl,fun i hi=>?_⟩;have hi':i < l.length:=by simpa using hi
 obtain⟨b',c',ht',hi3⟩:=hr i hi';by_cases hik:i=k
 ·subst hik;obtain⟨_,_,hc⟩:=hT i Jw;have h2:=(hc 2 (by omega)).1;rw [List.getElem?_eq_getElem Jw] at ht';rw [Option.some.inj ht'] at h2;have h2':w.cell? ⟨g,i*3+2,none⟩=some (.slice b' l[i].ids.length c'):=h2;rw [hb] at h2';injection h2' with h2'
  injection h2' with e1 e2 e3
  subst e1 e3;refine⟨b,c,?_,?_⟩
  ·rw [List.getElem?_eq_getElem Jw,Option.some.inj ht',List.getElem_set_self];simp[hlen]
  ·rw [List.getElem_set_self];exact hw
 ·refine⟨b',c',?_,?_⟩
  ·rw [ht',List.getElem_set_ne (by omega)]
  ·rw [List.getElem_set_ne (by omega)];refine hi3.keeps hK (fun x hx hx2=>?_);have e1:=(gD hx).1;have e2:=(gD hx2).1;have hIk:I i=I k:=by rw [←e1,←e2]
   exact Rj hnd hi' hk hik (gD hx).2 (gD hx2).2 hIk
theorem eO.three {w:World} {a:Option Addr} {g:Nat} {I:Nat→Nat} {l:List Sn} (h:eO w a g I l) (i:Nat) (hi:i < l.length):∃b c,a=some ⟨g,0,none⟩∧g < w.heap.size∧(w.cell? ⟨g,i*3,none⟩=some (.int .i64 l[i].f)∧w.cell? ⟨g,i*3+1,none⟩=some (.int .i64 l[i].l)∧w.cell? ⟨g,i*3+2,none⟩=some (.slice b l[i].ids.length c))∧(w.frozen? ⟨g,i*3,none⟩=false∧w.frozen? ⟨g,i*3+1,none⟩=false)∧GR.W aR 1 w b (I i) l[i].ids:=by
 obtain⟨T,hT,hl,hr⟩:=h;obtain⟨b,c,ht,hi2⟩:=hr i hi;have Jw:i < T.length:=by omega
 obtain⟨e,hg,hc⟩:=hT i Jw;rw [List.getElem?_eq_getElem Jw] at ht;rw [Option.some.inj ht] at hc;exact⟨b,c,e,hg,⟨by simpa using(hc 0 (by omega)).1,by simpa using(hc 1 (by omega)).1,by simpa using(hc 2 (by omega)).1⟩,⟨by simpa using(hc 0 (by omega)).2,(hc 1 (by omega)).2⟩,hi2⟩
end Go.Proofs.YtacgbldlonoaaaaGreatDoor
namespace Go.Proofs.YtacgbldlonoaaaaGreatDoor
open Go.RowKit
open Mth
theorem eO.below {w w':World} {a:Option Addr} {g:Nat} {I:Nat→Nat} {l:List Sn} (h:eO w a g I l) (hb:Below w.heap.size w w'):eO w' a g I l:=h.keeps (F:=[]) (aC.of_below hb) (fun _ _=>by simp) (fun _ _=>by simp)
theorem alM {α:Type} {enc:α→List Value} {sz:Nat} {w:World} {a:Option Addr} {g:Nat} {l:List α} (h:GR.W enc sz w a g l):∀x∈fp g l,x < w.heap.size:=fun x hx=>by
 rw [(gD hx).1];exact(h 0 (gD hx).2).2.1
end Go.Proofs.YtacgbldlonoaaaaGreatDoor
namespace Go.Proofs.YtacgbldlonoaaaaGreatDoor
open Go.RowKit
open Mth
structure KC (c:Nat→Nat) (k:Nat) (w w':World):Prop where
 os:w'.os=w.os
 tape:w'.tape=w.tape
 output:w'.output=w.output
 size:w.heap.size≤w'.heap.size
 block:∀x,x < w.heap.size→c x≠k→w'.heap[x]?=w.heap[x]?
theorem KC.of_below {c:Nat→Nat} {k:Nat} {w w':World} (h:Below w.heap.size w w'):KC c k w w':=⟨h.os,h.tape,h.output,h.size,fun x hx _=>h.block x hx⟩
theorem KC.trans {c:Nat→Nat} {k:Nat} {a b d:World} (h:KC c k a b) (h':KC c k b d):KC c k a d:=
 ⟨h'.os.trans h.os,h'.tape.trans h.tape,h'.output.trans h.output,Nat.le_trans h.size h'.size,fun x hx hc=>(h'.block x (Nat.lt_of_lt_of_le hx h.size) hc).trans (h.block x hx hc)⟩
theorem KC.set {c:Nat→Nat} {k g i:Nat} {w:World} {v:Value} (hc:c g=k):KC c k w (w.setCell ⟨g,i,none⟩ v):=
 ⟨rfl,rfl,rfl,by simp[World.setCell],fun x _ hx=>Below.heap_setCell _ _ _ _ (fun e=>hx (by rw [e];exact hc))⟩
theorem KC.keeps {c:Nat→Nat} {k:Nat} {F:List Nat} {w w':World} (h:aC F w w') (hF:∀x∈F,c x=k):KC c k w w':=⟨h.os,h.tape,h.output,h.size,fun x hx hc=>h.block x hx (fun hm=>hc (hF x hm))⟩
theorem KC.grown {c:Nat→Nat} {k:Nat} {row:Option Nat} {w w':World} (h:w.grownBy w' row) (hF:∀x,row=some x→c x=k):KC c k w w':=⟨h.os,h.tape,h.output,h.size,fun x hx hc=>h.block x hx (fun hm=>hc (hF x hm.symm))⟩
theorem KC.below {c:Nat→Nat} {k B:Nat} {a w w':World} (hb:Below B a w) (h:KC c k w w') (hlo:∀x,x < B→c x=0) (hk:k≠0) (hB:B≤w.heap.size):Below B a w':=
 ⟨h.os.trans hb.os,h.tape.trans hb.tape,h.output.trans hb.output,Nat.le_trans hb.size h.size,fun x hx=>(h.block x (by omega) (by rw [hlo x hx];omega)).trans (hb.block x hx)⟩
theorem KC.obj {c:Nat→Nat} {k g:Nat} {w w':World} {o:Obj} (h:KC c k w w') (ho:w.heap[g]?=some o) (hg:c g≠k):w'.heap[g]?=some o:=by rw [h.block g (aA ho) hg];exact ho
theorem KC.w {α:Type} {enc:α→List Value} {sz:Nat} {c:Nat→Nat} {k j:Nat} {w w':World} {a:Option Addr} {g:Nat} {l:List α} (h:KC c k w w') (hw:GR.W enc sz w a g l) (hc:∀x∈fp g l,c x=j) (hj:j≠k):GR.W enc sz w' a g l:=fun i hi=>by
 obtain⟨e,hg,hcell⟩:=hw i hi;have hb:=h.block g hg (by rw [hc g (dz (by omega))];exact hj);exact⟨e,Nat.lt_of_lt_of_le hg h.size,fun q hq=>⟨(World.cell?_of_block (w:=w) hb).trans (hcell q hq).1,(World.frozen?_of_block (w:=w) hb).trans (hcell q hq).2⟩⟩
theorem KC.own {c:Nat→Nat} {k j B:Nat} {w w':World} {e:TypeId} {sz n:Nat} {v:Value} {xs:List Value} (h:KC c k w w') (ho:w.ownsRow B e sz v n xs) (hc:∀x,v.ownBlock=some x→c x=j) (hj:j≠k):w'.ownsRow B e sz v n xs:=by
 refine⟨ho.1,?_⟩;rcases ho.2 with hn|⟨g,cap,cur,rfl,hb,hgg,rest⟩
 ·exact .inl hn
 ·exact .inr ⟨g,cap,cur,rfl,hb,h.obj hgg (by rw [hc g rfl];exact hj),rest⟩
theorem KC.seen {c:Nat→Nat} {k:Nat} {w w':World} {a:Option Addr} {g:Nat} {I:Nat→Nat} {l:List Sn} (h:KC c k w w') (hs:eO w a g I l) (h4:∀x∈fp g l,c x=4) (h5:∀x∈nM I l,c x=5) (hk4:4≠k) (hk5:5≠k):eO w' a g I l:=by
 obtain⟨T,hT,hl,hr⟩:=hs;refine⟨T,h.w hT (fun x hx=>h4 x ?_) hk4,hl,fun i hi=>?_⟩
 ·exact QV
 ·obtain⟨b,d,ht,hi2⟩:=hr i hi;exact⟨b,d,ht,h.w hi2 (fun x hx=>h5 x (iL hi x hx)) hk5⟩
structure NO (w:World) (B:Nat) (n:Nd) (A:bE) (G:aU) (c:Nat→Nat):Prop where
 k:GR.W aR 1 w A.k G.k n.kids
 p:GR.W eG 4 w A.p G.p n.pu
 o:w.ownsRow B 95 4 (.slice A.o n.out.length A.co) n.out.length (GR.flat aS n.out)
 s:eO w A.s G.s G.i n.seen
 r:w.ownsRow B 97 4 (.slice A.r n.reqs.length A.cr) n.reqs.length (GR.flat aK n.reqs)
 lo:∀x,x < B→c x=0
 ck:∀x∈fp G.k n.kids,c x=1
 cp:∀x∈fp G.p n.pu,c x=2
 co:∀x,(Value.slice A.o n.out.length A.co).ownBlock=some x→c x=3
 c4:∀x∈fp G.s n.seen,c x=4
 ci:∀x∈nM G.i n.seen,c x=5
 cr:∀x,(Value.slice A.r n.reqs.length A.cr).ownBlock=some x→c x=6
 ni:(nM G.i n.seen).Nodup
theorem NO.kc {w w':World} {B:Nat} {n:Nd} {A:bE} {G:aU} {c:Nat→Nat} {k:Nat} (h:NO w B n A G c) (hk:KC c k w w') (h7:6 < k):NO w' B n A G c:=
 ⟨hk.w h.k h.ck (by omega),hk.w h.p h.cp (by omega),hk.own h.o h.co (by omega),hk.seen h.s h.c4 h.ci (by omega) (by omega),hk.own h.r h.cr (by omega),h.lo,h.ck,h.cp,h.co,h.c4,h.ci,h.cr,h.ni⟩
theorem zy {α:Type} {enc:α→List Value} {sz:Nat} {w:World} {a:Option Addr} {g:Nat} {l:List α} (h:GR.W enc sz w a g l):∀x∈fp g l,x < w.heap.size:=fun x hx=>by
 have:=gD hx;rw [this.1];exact(h 0 this.2).2.1
theorem nI {w:World} {a:Option Addr} {g:Nat} {I:Nat→Nat} {l:List Sn} (h:eO w a g I l):(∀x∈fp g l,x < w.heap.size)∧∀x∈nM I l,x < w.heap.size:=by
 obtain⟨T,hT,hl,hr⟩:=h;refine⟨fun x hx=>zy hT x ?_,fun x hx=>?_⟩
 ·exact QV
 ·obtain⟨i,hi,rfl,hpos⟩:=uf hx;obtain⟨b,d,ht,hi2⟩:=hr i hi;exact zy hi2 _ (dz hpos)
theorem NO.recol {w:World} {B:Nat} {n:Nd} {A:bE} {G:aU} {c c':Nat→Nat} (h:NO w B n A G c) (hB:B≤w.heap.size) (hc:∀x,x < w.heap.size→c' x=c x):NO w B n A G c':=
 ⟨h.k,h.p,h.o,h.s,h.r,fun x hx=>(hc x (by omega)).trans (h.lo x hx),fun x hx=>(hc x (zy h.k x hx)).trans (h.ck x hx),fun x hx=>(hc x (zy h.p x hx)).trans (h.cp x hx),
  fun x hx=>(hc x (h.o.lt x hx).2).trans (h.co x hx),fun x hx=>(hc x ((nI h.s).1 x hx)).trans (h.c4 x hx),fun x hx=>(hc x ((nI h.s).2 x hx)).trans (h.ci x hx),fun x hx=>(hc x (h.r.lt x hx).2).trans (h.cr x hx),h.ni⟩
theorem NO.at {w:World} {B:Nat} {n:Nd} {A:bE} {G:aU} {c:Nat→Nat} (h:NO w B n A G c):dQ w A n:=by
 refine⟨h.k.at,h.p.at,?_,h.s.at,?_⟩
 ·exact Zn
 ·exact Zo
structure WK (w0 w:World) (wb:Nat) (n:Nd) (A:bE) (G:aU) (c:Nat→Nat) (v:Value) (L:List Mg):Prop where
 keep:Below w0.heap.size w0 w
 blk:w.heap[wb]?=some (.cells (FE n A v) 74 (0,0))
 no:NO w w0.heap.size n A G c
 m:w.ownsRow w0.heap.size 32 7 v L.length (GR.flat gX L)
 cm:∀x,v.ownBlock=some x→c x=7
 cw:c wb=8
theorem WK.kc {w0 w w':World} {wb:Nat} {n:Nd} {A:bE} {G:aU} {c:Nat→Nat} {v:Value} {L:List Mg} {k:Nat} (h:WK w0 w wb n A G c v L) (hk:KC c k w w') (h8:8 < k):WK w0 w' wb n A G c v L:=
 ⟨hk.below h.keep h.no.lo (by omega) h.keep.size,hk.obj h.blk (by rw [h.cw];omega),h.no.kc hk (by omega),hk.own h.m h.cm (by omega),h.cm,h.cw⟩
theorem WK.step {w0 w w':World} {wb:Nat} {n:Nd} {A:bE} {G:aU} {c:Nat→Nat} {v:Value} {L:List Mg} (h:WK w0 w wb n A G c v L) (hb:Below w.heap.size w w'):WK w0 w' wb n A G c v L:=h.kc (k:=9) (KC.of_below hb) (by omega)
theorem WK.recol {w0 w:World} {wb:Nat} {n:Nd} {A:bE} {G:aU} {c c':Nat→Nat} {v:Value} {L:List Mg} (h:WK w0 w wb n A G c v L) (hc:∀x,x < w.heap.size→c' x=c x):WK w0 w wb n A G c' v L:=
 ⟨h.keep,h.blk,h.no.recol h.keep.size hc,h.m,fun x hx=>(hc x (h.m.lt x hx).2).trans (h.cm x hx),(hc wb (aA h.blk)).trans h.cw⟩
theorem WK.lo {w0 w:World} {wb:Nat} {n:Nd} {A:bE} {G:aU} {c:Nat→Nat} {v:Value} {L:List Mg} (h:WK w0 w wb n A G c v L):w0.heap.size≤wb:=by
 rcases Nat.lt_or_ge wb w0.heap.size with h'|h'
 ·have:=h.no.lo wb h';rw [h.cw] at this;cases this
 ·exact h'
def newC (B k:Nat) (c:Nat→Nat):Nat→Nat:=fun x=>if B≤x then k else c x
theorem dH {B k x:Nat} {c:Nat→Nat} (h:x < B):newC B k c x=c x:=by unfold newC;rw [if_neg (by omega)]
theorem aT {B k x:Nat} {c:Nat→Nat} (h:B≤x):newC B k c x=k:=by unfold newC;rw [if_pos h]
theorem NO.kc0 {w w':World} {B:Nat} {n:Nd} {A:bE} {G:aU} {c:Nat→Nat} (h:NO w B n A G c) (hk:KC c 0 w w'):NO w' B n A G c:=
 ⟨hk.w h.k h.ck (by omega),hk.w h.p h.cp (by omega),hk.own h.o h.co (by omega),hk.seen h.s h.c4 h.ci (by omega) (by omega),hk.own h.r h.cr (by omega),h.lo,h.ck,h.cp,h.co,h.c4,h.ci,h.cr,h.ni⟩
end Go.Proofs.YtacgbldlonoaaaaGreatDoor
