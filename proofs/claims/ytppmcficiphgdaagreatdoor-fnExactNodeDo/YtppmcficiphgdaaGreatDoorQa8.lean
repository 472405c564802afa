/-
  NdPayS, NdPaysS, Clone, NdSay, DecMath, DecS, Mark, Keeps, MarkB, NdMark.
-/
import Derived.Test.YtppmcficiphgdaaGreatDoorQa6
import Derived.Test.YtppmcficiphgdaaGreatDoorQa7
import Derived.Test.YtppmcficiphgdaaGreatDoorQaZ3
import Derived.Test.YtppmcficiphgdaaGreatDoorQa3
import Derived.Test.YtppmcficiphgdaaGreatDoorQa1
import Derived.Deep.RegionHeldLaw
import Derived.Deep.AppendLies
import Derived.Lib.Strings
import Derived.Lib.BufferWrite
import Derived.Lib.UnsafeStr
import Derived.Laws.MakeOwn
import Derived.Laws.CopyOwn
import Derived.Deep.RegionLaw
import Derived.Lib.ItoaNum
import Derived.Lib.ItoaLen
import Derived.Laws.DeepStrings4
import Derived.OneCell
import Derived.Deep.Draws
namespace Go.Proofs.YtppmcficiphgdaaGreatDoor
set_option maxHeartbeats 4000000
set_option maxRecDepth 100000
open Go.RowKit
open Mth
theorem step_append_ownM {P:Program} (w:World) {ops:Array Oper} {o:Oper} {a:Act} {K:Act→World→Prop} {Q:Exit→Act→World→Prop} {E:Prop} (hgd:o.guard=none) (s x:Operand) (t:TypeId)
 (ho:o.op= .call {callee:= .builtin .append,args:=#[s,x],argTypes:=#[t,t]})
 (base:Nat) (e:TypeId) (i:TypeInfo) (z:Value) (size bytes:Nat) (ht:P.underlying t=some (.slice e)) (hi:P.info? e=some i) (hz:i.zero=some z)
 (hsize:i.size=size) (hby:i.bytes=bytes) (hzs:z.cells.size=size) (hsz:0 < size)
 (v:Value) (n:Nat) (xs:List Value) (hs:a.eval s=v) (hown:w.ownsRow base e size v n xs)
 (ad:Addr) (m c:Nat) (news:List Value) (hx:a.eval x= .slice (some ad) m c) (hl:news.length=m*size) (hnews:∀j u,news[j]?=some u→w.cell? (ad.add j)=some u) (h1:∀u∈news,u.oneCell'=true)
 (h63:n+m≤maxLen) (hbytes:(n+m)*bytes≤140737488355328) (hbase:base≤w.heap.size)
 (h:∀v' w',w'.ownsRow base e size v' (n+m) (xs++news)→w.grownBy w' v.ownBlock→(v'= .slice none 0 0↔v= .slice none 0 0∧m=0)→K (a.put o.dst v') w'):
 if Region.wanted o (yielded ops a.tmps)=true then Oper.wp P o a w K Q else E:=by
 have hw:Region.wanted o (yielded ops a.tmps)=true:=by simp[Region.wanted,hgd]
 rw [if_pos hw];exact wp_append_own w s x t ho base e i z size bytes ht hi hz hsize hby hzs hsz v n xs hs hown ad m c news hx hl hnews h1 h63 hbytes hbase h
theorem grown_belowM {w w':World} {B:Nat} {row:Option Nat} (hk:w.grownBy w' row) (hg:∀k,row=some k→B≤k) (hB:B≤w.heap.size):Below B w w':=⟨hk.os,hk.tape,hk.output,hk.size,fun k hl=>hk.block k (by omega) (fun e=>by have:=hg k e.symm;omega)⟩
theorem GR.At.heap {α:Type} {enc:α→List Value} {sz:Nat} {w w1:World} {a:Option Addr} {l:List α} (h:GR.At enc sz w a l) (e:w1.heap=w.heap):GR.At enc sz w1 a l:=fun i hi=>by
 obtain⟨g,off,e0,hg,hc⟩:=h i hi;exact⟨g,off,e0,by rw [e];exact hg,fun j hj=>(World.cell?_of_block (w:=w) (by rw [e])).trans (hc j hj)⟩
theorem far7 {w:World} {g h i:Nat} {u b0 b1 b2 b3 b4 b5 b6:Value} (hne:g≠h) (e:w.cell? ⟨h,i,none⟩=some u):
 (((((((w.setCell ⟨g,0,none⟩ b0).setCell ⟨g,1,none⟩ b1).setCell ⟨g,2,none⟩ b2).setCell ⟨g,3,none⟩ b3).setCell ⟨g,4,none⟩ b4).setCell ⟨g,5,none⟩ b5).setCell ⟨g,6,none⟩ b6).cell? ⟨h,i,none⟩=some u:=by
 rw [World.cell?_setCell_far _ _ _ _ hne,World.cell?_setCell_far _ _ _ _ hne,World.cell?_setCell_far _ _ _ _ hne,World.cell?_setCell_far _ _ _ _ hne,World.cell?_setCell_far _ _ _ _ hne,World.cell?_setCell_far _ _ _ _ hne,World.cell?_setCell_far _ _ _ _ hne];exact e
def GivesM (w:World) (L:List Mg) (e:Ending) (w':World):Prop:=∃a c,e= .returned (.slice a L.length c)∧∃g,GR.W encM 7 w' a g L∧(∀x∈fp g L,w.heap.size≤x∧x < w'.heap.size)∧Below w.heap.size w w'
theorem specPay (n:Nd) (A:Ads) (s:Snt) (w:World) (hl:n.out.length≤1048600) (ha:SentAt w A.o n.out):
 Calls Tryz.prog 134 #[ndv n A,SentV s] w fun e w'=>e= .returned (mgv (payM n s))∧Below w.heap.size w w':=by
 obtain⟨hP,hR,hO,hB⟩:=allocs3 w (.cells (ndc n A) 30) (.cells #[.int .i64 s.i,.int .i64 s.t,.string s.k,.int .i64 s.n] 79) (.cells zm7 32);have HPM:Hid (payM n s=⟨1,n.id,s.t,s.i,lowOf n.out s.t s.i,s.k,s.n⟩):=rfl;have HLW:=hide (fun W (hb:Below w.heap.size w W) w1 (h:w1.heap=W.heap)=>specLow n A s.t s.i w1 hl (GR.At.heap (GR.At.below ha hb) h));rw [unhide HPM];generalize lowOf n.out s.t s.i=LO at *;open Sa116 in exact Ya26
end Go.Proofs.YtppmcficiphgdaaGreatDoor
namespace Go.Proofs.YtppmcficiphgdaaGreatDoor
set_option maxHeartbeats 4000000
set_option maxRecDepth 100000
open Go.RowKit
open Mth
theorem GivesM.of_own {w w':World} {B:Nat} {v:Value} {L:List Mg} {n:Nat} (hn:n=L.length) (h:w'.ownsRow B 32 7 v n (GR.flat encM L)) (hB:w.heap.size≤B) (hb:Below w.heap.size w w'):GivesM w L (.returned v) w':=by
 subst hn;obtain⟨a,c,g,rfl,hW,hr,_⟩:=GR.W.of_own encM_length h;exact⟨a,c,rfl,g,hW,fun x hx=>⟨Nat.le_trans hB (hr x hx).1,(hr x hx).2⟩,hb⟩
theorem flat_snoc {α:Type} (enc:α→List Value) (l:List α) (x:α):GR.flat enc (l++[x])=GR.flat enc l++enc x:=by
 rw [GR.flat_append];simp[GR.flat]
theorem specPays (n:Nd) (A:Ads) (w:World) (hsz:NdSz n 1048600) (ha:NodeAt w A n):
 Calls Tryz.prog 61 #[ndv n A] w (GivesM w (paysL n)):=by
 obtain⟨i0,hi,hz0,hz1,hz2⟩:=info_parts infoMsg;have HOK:=hide (fun W (hb:Below w.heap.size w W)=>specNodeOk n A W hsz (ha.below hb));have HPY:=hide (fun s W (hb:Below w.heap.size w W) w1 (h:w1.heap=W.heap)=>specPay n A s w1 hsz.o (GR.At.heap (GR.At.below ha.o hb) h));obtain⟨L,hL⟩:∃L,paysL n=L:=⟨_,rfl⟩;have HPL:Hid (L=if ndOk n then n.out.map (payM n) else[]):=hL.symm;have HPB:=hide (heap_alloc_new w (.cells (ndc n A) 30));have HAO:=hide ha.o;have hlo:=hsz.o;rw [hL];clear hL;generalize ndOk n=OK at *;generalize payM n=PM at *;clear ha hsz;open Sa117 in exact Ya26
end Go.Proofs.YtppmcficiphgdaaGreatDoor
namespace Go.Proofs.YtppmcficiphgdaaGreatDoor
set_option maxHeartbeats 1000000
set_option maxRecDepth 100000
open Go.RowKit
theorem infoByte:(Tryz.prog.info? 5).map (fun i=>(i.zero,i.size,i.bytes))=some (some (.int .u8 0),1,1):=by kernel_rfl
theorem sizeByte:(Tryz.prog.info? 5).map (·.size)=some 1:=by kernel_rfl
theorem cellsByte:Tryz.prog.cellsOf 5=1:=by kernel_rfl
theorem cloneIn_empty (w:World):Calls Tryz.prog 149 #[.string ByteArray.empty] w fun e w'=>e= .returned (.string ByteArray.empty)∧w=w':=by
 go_enter Tryz.func149,Tryz.ntmps149
 go_wp2
 go_ret;exact⟨rfl,rfl⟩
theorem make_bytes (n:Nat) (hn:n≤281474976710656):∃M:Array Value,M.size=n∧∀W:World,(Instr.makeSlice 22 (.int .i64 (n:Int)) (.int .i64 (n:Int))).run Tryz.prog W= .ok (.slice (some ⟨W.heap.size,0,none⟩) n n) (W.alloc (.cells M 5)):=by
 obtain⟨i0,hi,hz0,hz1,hz2⟩:=info_parts infoByte;refine⟨madeCells (Value.int .u8 0).cells (((n:Nat):Int).toNat*i0.size),by rw [size_madeCells,hz1];simp,fun W=>?_⟩;simpa using run_make (P:=Tryz.prog) W 22 5 i0 (.int .u8 0) Tryz.underlying22 hi hz0 .i64 .i64 (n:Int) (n:Int) (by omega) (by omega) (by rw [hz2];omega) (by omega)
theorem copy_all (w:World) (s:ByteArray) (M:Array Value) (hM:M.size=s.size):∃Y:Array Value,Y.toList=s.data.toList.map bv∧
 (Builtin.copy_ #[22,9] 3 #[.slice (some ⟨w.heap.size,0,none⟩) s.size s.size,.string s]).run Tryz.prog (w.alloc (.cells M 5))= .ok (goInt s.size) ((w.alloc (.cells M 5)).setRow w.heap.size Y):=by
 have h:=Lib.run_copy_row_string (P:=Tryz.prog) (w.alloc (.cells M 5)) 22 9 3 5 w.heap.size 0 s.size s.size s M 5 Tryz.underlying22 sizeByte (heap_alloc_new w _) (Nat.le_refl _) (by omega);refine⟨_,?_,h⟩;rw [List.toList_toArray,List.take_zero,List.nil_append,List.drop_of_length_le (by rw [Array.length_toList];omega),List.append_nil];rfl
theorem cloneIn (s:ByteArray) (w:World) (h0:0 < s.size) (hlim:s.size≤281474976710656):
 Calls Tryz.prog 149 #[.string s] w fun e w'=>e= .returned (.string s)∧Below w.heap.size w w':=by
 obtain⟨M,hMs,hmk⟩:=make_bytes s.size hlim;obtain⟨Y,hY,hcp⟩:=copy_all w s M hMs;have hYs:Y.size=s.size:=by rw [←Array.length_toList,hY];simp
 have hg:((w.alloc (.cells M 5)).setRow w.heap.size Y).heap[w.heap.size]?=some (.cells Y 5 (0,0)):=setRow_heap _ _ M _ 5 (0,0) (heap_alloc_new w _)
 have hus:=Lib.run_unsafeString_row (P:=Tryz.prog) ((w.alloc (.cells M 5)).setRow w.heap.size Y) 204 3 9 5 Tryz.underlying204 cellsByte w.heap.size Y.size (by unfold World.shape?;rw [hg]) s.data.toList
  (fun e=>by have:=size_toList s;rw [e] at this;simp at this;omega) (by rw [size_toList];omega) (by rw [size_toList];omega)
  (fun j x hx=>Lib.cells_of_row hg Y.size j _ (by rw [List.take_of_length_le (by rw [Array.length_toList];exact Nat.le_refl _),hY];simp[bv,hx]))
 rw [size_toList,Lib.mk_data] at hus;have hne:((s.size:Int) == 0)=false:=beq_eq_false_iff_ne.2 (by omega);have hlt:(0:Int) < (s.size:Int):=by omega
 clear hY hMs hg;go_enter Tryz.func149,Tryz.ntmps149
 go_wp2
 go_ret;exact⟨rfl,Lib.below_freeze (below_setRow ((Below.refl _ w).alloc (Nat.le_refl _) _) (Nat.le_refl _) Y) (p:=⟨w.heap.size,0,none⟩) (Nat.le_refl _) _⟩
theorem clone (s:ByteArray) (w:World) (hlim:s.size≤281474976710656):
 Calls Tryz.prog 95 #[.string s] w fun e w'=>e= .returned (.string s)∧Below w.heap.size w w':=by
 by_cases h0:0 < s.size
 ·go_enter Tryz.func95,Tryz.ntmps95
  go_wp2_with (go_at_call 149;refine(cloneIn s _ h0 hlim).mono ?_;rintro e w' ⟨rfl,hbel⟩)
  go_ret;exact⟨rfl,hbel⟩
 ·obtain rfl:=eq_empty s (by omega);go_enter Tryz.func95,Tryz.ntmps95
  go_wp2_with (go_at_call 149;refine(cloneIn_empty _).mono ?_;rintro e w' ⟨rfl,rfl⟩)
  go_ret;exact⟨rfl,Below.refl _ _⟩
end Go.Proofs.YtppmcficiphgdaaGreatDoor
namespace Go.Proofs.YtppmcficiphgdaaGreatDoor
open Go.RowKit
open Mth
abbrev wkc (n:Nd) (A:Ads) (v:Value):Array Value:=#[.int .i64 n.id,.int .i64 n.par,.slice A.k n.kids.length A.ck,.int .i64 n.next,.slice A.p n.pu.length A.cp,.slice A.o n.out.length A.co,.slice A.s n.seen.length A.cs,.int .i64 n.old,.slice A.r n.reqs.length A.cr,v]
theorem tenC {w:World} {g:Nat} {v0 v1 v2 v3 v4 v5 v6 v7 v8 v9:Value} {t:TypeId} (h:w.heap[g]?=some (.cells #[v0,v1,v2,v3,v4,v5,v6,v7,v8,v9] t (0,0))):
 w.cell? ⟨g,0,none⟩=some v0∧w.cell? ⟨g,1,none⟩=some v1∧w.cell? ⟨g,2,none⟩=some v2∧w.cell? ⟨g,3,none⟩=some v3∧w.cell? ⟨g,4,none⟩=some v4∧w.cell? ⟨g,5,none⟩=some v5∧w.cell? ⟨g,6,none⟩=some v6∧w.cell? ⟨g,7,none⟩=some v7∧w.cell? ⟨g,8,none⟩=some v8∧w.cell? ⟨g,9,none⟩=some v9:=by
 have hc:∀i,w.cell? ⟨g,i,none⟩=#[v0,v1,v2,v3,v4,v5,v6,v7,v8,v9][i]?:=fun i=>cell_of_row w g i _ t (0,0) h
 exact⟨hc 0,hc 1,hc 2,hc 3,hc 4,hc 5,hc 6,hc 7,hc 8,hc 9⟩
structure WS (w2 wr:World) (wb:Nat) (n:Nd) (A:Ads) (v:Value) (L:List Mg):Prop where
 keep:KeepsL [wb] w2 wr
 blk:wr.heap[wb]?=some (.cells (wkc n A v) 74 (0,0))
 own:wr.ownsRow w2.heap.size 32 7 v L.length (GR.flat encM L)
 lt:wb < w2.heap.size
theorem WS.step {w2 wr w':World} {wb:Nat} {n:Nd} {A:Ads} {v:Value} {L:List Mg} (h:WS w2 wr wb n A v L) (hb:Below wr.heap.size wr w'):WS w2 w' wb n A v L:=
 ⟨h.keep.trans (KeepsL.of_below hb),obj_step h.blk hb,GR.own_below h.own hb,h.lt⟩
theorem WS.set {w2 wr:World} {wb g i:Nat} {n:Nd} {A:Ads} {v u:Value} {L:List Mg} (h:WS w2 wr wb n A v L) (hg:w2.heap.size≤g) (hv:v.ownBlock≠some g):WS w2 (wr.setCell ⟨g,i,none⟩ u) wb n A v L:=by
 have hlt:=h.lt;refine⟨?_,?_,?_,hlt⟩
 ·refine⟨h.keep.os,h.keep.tape,h.keep.output,by have:=h.keep.size;simpa [World.setCell] using this,fun k hk hkn=>?_⟩;have hkg:k≠g:=by omega
  rw [Below.heap_setCell _ _ _ _ hkg];exact h.keep.block k hk hkn
 ·have hkg:wb≠g:=by omega
  rw [Below.heap_setCell _ _ _ _ hkg];exact h.blk
 ·refine h.own.kept (row:=some g) ⟨rfl,rfl,rfl,by simp[World.setCell],fun k _ hk=>Below.heap_setCell _ _ _ _ (fun e=>hk (by rw [e]))⟩ ?_;cases hv':v.ownBlock with
  |none=>exact .inl rfl
  |some k=>exact .inr (fun e=>hv (by rw [hv',e]))
theorem WS.app {w2 wr w6:World} {wb:Nat} {n:Nd} {A:Ads} {v v':Value} {L:List Mg} {o:Obj} (h:WS w2 wr wb n A v L) (m:Mg)
 (hown:w6.ownsRow w2.heap.size 32 7 v' (L.length+1) (GR.flat encM L++encM m)) (hg:(wr.alloc o).grownBy w6 v.ownBlock):
 w6.heap[wb]?=some (.cells (wkc n A v) 74 (0,0))∧WS w2 (w6.setCell ⟨wb,9,none⟩ v') wb n A v' (L++[m]):=by
 have hvb:∀k,v.ownBlock=some k→w2.heap.size≤k:=fun k hk=>(h.own.lt k hk).1
 have hlt:=h.lt;have hsz:=h.keep.size
 have hblk6:w6.heap[wb]?=some (.cells (wkc n A v) 74 (0,0)):=by
  rw [hg.block wb (by simp;omega) (fun e=>by have:=hvb wb e.symm;omega),Below.heap_alloc _ _ _ (by omega)];exact h.blk
 have hne:∀k,v'.ownBlock=some k→k≠wb:=fun k hk=>by have:=(hown.lt k hk).1;omega
 refine⟨hblk6,?_,?_,?_,hlt⟩
 ·refine⟨hg.os.trans h.keep.os,hg.tape.trans h.keep.tape,hg.output.trans h.keep.output,?_,fun k hk hkn=>?_⟩
  ·have:=hg.size;simp[World.setCell] at this ⊢;omega
  ·have hkn':k≠wb:=by simpa using hkn
   exact Za63
 ·exact blk_setO hblk6 9 v'
 ·rw [List.length_append,flat_snoc];refine hown.kept (row:=some wb) ⟨rfl,rfl,rfl,by simp[World.setCell],fun k _ hk=>Below.heap_setCell _ _ _ _ (fun e=>hk (by rw [e]))⟩ ?_;exact Za97
end Go.Proofs.YtppmcficiphgdaaGreatDoor
namespace Go.Proofs.YtppmcficiphgdaaGreatDoor.Mth
open Go.Lib (decDigits itoa)
theorem digits_small (v:Nat) (h:v < 10):decDigits v=[UInt8.ofNat (48+v)]:=by rw [decDigits,dif_pos h]
theorem digits_big (v:Nat) (h:¬v < 10):decDigits v=decDigits (v / 10)++[UInt8.ofNat (48+v % 10)]:=by rw [decDigits,dif_neg h]
end Go.Proofs.YtppmcficiphgdaaGreatDoor.Mth
namespace Go.Proofs.YtppmcficiphgdaaGreatDoor
open Go.RowKit
open Go.Lib (decDigits itoa)
def leftDigits (a:Nat):List UInt8:=if a=0 then[] else decDigits a
theorem left_step (a:Nat) (l t:List UInt8) (h0:a≠0) (h:leftDigits a++l=t):leftDigits (a / 10)++(UInt8.ofNat (48+a % 10)::l)=t:=by
 unfold leftDigits at *;rw [if_neg h0] at h;by_cases hs:a < 10
 ·have e1:a / 10=0:=by omega
  have e2:a % 10=a:=by omega
  rw [Mth.digits_small a hs] at h;rw [e1,e2,if_pos rfl];simpa using h
 ·rw [Mth.digits_big a hs] at h;rw [if_neg (by omega),←h];simp
end Go.Proofs.YtppmcficiphgdaaGreatDoor
namespace Go.Proofs.YtppmcficiphgdaaGreatDoor
set_option maxHeartbeats 1000000
set_option maxRecDepth 100000
open Go.RowKit
open Go.Lib (decDigits)
def mark (k:Nat):ByteArray:=⟨(109::decDigits k).toArray⟩
theorem one_add (b:UInt8) (l:List UInt8):(ByteArray.mk #[b])++⟨l.toArray⟩=⟨(b::l).toArray⟩:=by
 apply ByteArray.ext;simp
theorem conv_one (w:World) (z:Int) (b:UInt8) (hz:z=b.toNat) (cap:Nat):(convert 22 9 (.slice (some ⟨w.heap.size,0,none⟩) 1 cap)).run Tryz.prog (w.alloc (.cells #[.int .u8 z] 5))= .ok (.string ⟨#[b]⟩) (w.alloc (.cells #[.int .u8 z] 5)):=by
 subst hz
 have:=run_convert_bytes_back (P:=Tryz.prog) (w.alloc (.cells #[.int .u8 (b.toNat:Int)] 5)) 22 9 5 ⟨w.heap.size,0,none⟩ cap [b] Tryz.underlying22 Tryz.underlying5 Tryz.underlying9 (fun j hj=>by
  have:j=0:=by simpa using hj
  subst this;simp[Addr.add])
 simpa using this
theorem markText (k:Nat) (w:World) (h0:0 < k) (hk:(k:Int)≤9223372036854775807):
 Calls Tryz.prog 81 #[.int .i64 k] w fun e w'=>e= .returned (.string (mark k))∧Below w.heap.size w w':=by
 have hlen:(decDigits k).length≤21:=by have:=Lib.itoa_length_le k (by omega) hk;rw [Lib.itoa,if_neg (by omega)] at this;simpa using this
 have hpos:decide ((k:Int)≤0)=false:=by simp;omega
 go_enter Tryz.func81,Tryz.ntmps81
 go_wp2
 go_loopw [0,3] (fun m o wr=>∃(a:Nat) (l:List UInt8),a≤k∧m= .int .i64 a∧o= .string ⟨l.toArray⟩∧leftDigits a++l=decDigits k∧Below w.heap.size w wr) (fun m _ _=>(intOf m).toNat)
 case atStart=>exact⟨k,[],Nat.le_refl _,rfl,rfl,by unfold leftDigits;rw [if_neg (by omega)];simp,Below.refl _ _⟩
 case round=>
  obtain⟨a,l,ha,rfl,rfl,hl,hbel⟩:=hrel;have HL:=hide hl;have hll:l.length≤21:=by have:=congrArg List.length hl;rw [List.length_append] at this;omega
  clear hl;by_cases hz:a=0
  ·subst hz;have HE:=hide (show l=decDigits k by have:=unhide HL;simpa [leftDigits] using this);have hA:=hide (one_add 109 l);clear HL;go_wp2
   go_ret;exact⟨ret_string (by unfold mark;rw [←unhide HE];exact hA),hbel⟩
  ·have HS:=hide (left_step a l _ hz HL);obtain⟨b,hb⟩:∃b,b=UInt8.ofNat (48+a % 10):=⟨_,rfl⟩;rw [←hb] at HS;have hA:=hide (one_add b l);have hconv:=conv_one wr (48+(a:Int) % 10) b (by rw [hb,Mth.toNat_byte _ (by omega)];omega) 1;clear HL hb;go_wp2
   go_roundw
   case rel=>exact⟨a / 10,_,by omega,by go_num,by rw [unhide hA],HS,by first|exact hbel.alloc (by have:=hbel.size;omega) _|exact(hbel.alloc (by have:=hbel.size;omega) _).drew⟩
   case measure=>simp[intOf];omega
end Go.Proofs.YtppmcficiphgdaaGreatDoor
namespace Go.Proofs.YtppmcficiphgdaaGreatDoor
open Go.RowKit
def strBlock (w:World) (g:Nat) (xs:List ByteArray):Prop:=w.heap[g]?=some (.cells (xs.map Value.string).toArray 9 (0,0))
theorem strBlock.cell {w:World} {g:Nat} {xs:List ByteArray} (h:strBlock w g xs) (i:Nat) (hi:i < xs.length):w.cell? ⟨g,i,none⟩=some (.string xs[i]):=by
 rw [cell_of_row w g i _ 9 (0,0) h];simp[hi]
theorem strBlock.free {w:World} {g:Nat} {xs:List ByteArray} (h:strBlock w g xs) (i:Nat):w.frozen? ⟨g,i,none⟩=false:=by
 unfold World.frozen?;rw [h];simp
theorem strBlock.lt {w:World} {g:Nat} {xs:List ByteArray} (h:strBlock w g xs):g < w.heap.size:=by
 rcases Nat.lt_or_ge g w.heap.size with h'|h'
 ·exact h'
 ·rw [strBlock,Array.getElem?_eq_none h'] at h;cases h
theorem strBlock.below {w w':World} {g B:Nat} {xs:List ByteArray} (h:strBlock w g xs) (hb:Below B w w') (hg:g < B):strBlock w' g xs:=by
 unfold strBlock;rw [hb.block g hg];exact h
theorem strBlock.set {w:World} {g:Nat} {xs:List ByteArray} (h:strBlock w g xs) (i:Nat) (t:ByteArray):strBlock (w.setCell ⟨g,i,none⟩ (.string t)) g (xs.set i t):=by
 unfold strBlock World.setCell;simp only[Array.getElem?_modify];rw [if_pos trivial,h];simp
structure Keeps (g:Nat) (w w':World):Prop where
 os:w'.os=w.os
 tape:w'.tape=w.tape
 output:w'.output=w.output
 size:w.heap.size≤w'.heap.size
 block:∀k,k < w.heap.size→k≠g→w'.heap[k]?=w.heap[k]?
theorem Keeps.refl (g:Nat) (w:World):Keeps g w w:=⟨rfl,rfl,rfl,Nat.le_refl _,fun _ _ _=>rfl⟩
theorem Keeps.trans {g:Nat} {a b c:World} (h:Keeps g a b) (k:Keeps g b c):Keeps g a c:=
 ⟨k.os.trans h.os,k.tape.trans h.tape,k.output.trans h.output,Nat.le_trans h.size k.size,fun i hi hg=>(k.block i (Nat.lt_of_lt_of_le hi h.size) hg).trans (h.block i hi hg)⟩
theorem Keeps.of_below {g:Nat} {w w':World} (h:Below w.heap.size w w'):Keeps g w w':=⟨h.os,h.tape,h.output,h.size,fun k hk _=>h.block k hk⟩
theorem Keeps.set {g i:Nat} {w:World} (v:Value):Keeps g w (w.setCell ⟨g,i,none⟩ v):=
 ⟨rfl,rfl,rfl,by simp[World.setCell],fun k _ hg=>Below.heap_setCell _ _ _ _ hg⟩
theorem Keeps.below {g B:Nat} {w w':World} (h:Keeps g w w') (hB:B≤g) (hs:B≤w.heap.size):Below B w w':=⟨h.os,h.tape,h.output,h.size,fun k hk=>h.block k (by omega) (by omega)⟩
theorem strBlock.keeps {w w':World} {g g':Nat} {xs:List ByteArray} (h:strBlock w g' xs) (hk:Keeps g w w') (hne:g'≠g):strBlock w' g' xs:=by
 unfold strBlock;rw [hk.block g' h.lt hne];exact h
end Go.Proofs.YtppmcficiphgdaaGreatDoor
namespace Go.Proofs.YtppmcficiphgdaaGreatDoor
open Go.RowKit
open Mth
theorem setW_cell_otherN {g k:Nat}:∀(vs:List Value) (w:World) (o:Nat),k < o∨o+vs.length≤k→(GR.setW w g o vs).cell? ⟨g,k,none⟩=w.cell? ⟨g,k,none⟩:=by
 exact Za37
theorem setW_cell_sameN {g:Nat}:∀(vs:List Value) (w:World) (o:Nat),(∀j,j < vs.length→∃v,w.cell? ⟨g,o+j,none⟩=some v)→∀j,j < vs.length→(GR.setW w g o vs).cell? ⟨g,o+j,none⟩=vs[j]?:=by
 intro vs;induction vs with
 |nil=>intro w o _ j hj;simp at hj
 |cons v vs ih=>
  intro w o h j hj
  cases j with
  |zero=>
   obtain⟨v0,hv0⟩:=h 0 (by simp)
   rw [Nat.add_zero] at hv0 ⊢
   refine(setW_cell_otherN vs (w.setCell ⟨g,o,none⟩ v) (o+1) (by omega)).trans ?_
   rw [World.cell?_setCell_same _ _ _ hv0]
   rfl
  |succ j=>
   have h2:=ih (w.setCell ⟨g,o,none⟩ v) (o+1) (fun j' hj'=>by
    obtain⟨v1,hv1⟩:=h (j'+1) (by simpa using hj')
    refine⟨v1,(World.cell?_setCell_other _ _ _ _ (by simp<;>omega)).trans ?_⟩
    rw [←hv1,show o+1+j'=o+(j'+1) by omega]) j (by simpa using hj)
   rw [show o+1+j=o+(j+1) by omega] at h2
   exact h2
theorem setW_frozenN {g k:Nat}:∀(vs:List Value) (w:World) (o:Nat),(GR.setW w g o vs).frozen? ⟨g,k,none⟩=w.frozen? ⟨g,k,none⟩:=by
 exact Za67
theorem setW_sizeN {g:Nat}:∀(vs:List Value) (w:World) (o:Nat),(GR.setW w g o vs).heap.size=w.heap.size:=by
 exact Za73
theorem setW_keeps {g:Nat}:∀(vs:List Value) (w:World) (o:Nat),KeepsL [g] w (GR.setW w g o vs):=by
 intro vs;induction vs with
 |nil=>intro w o;exact KeepsL.refl _ _
 |cons v vs ih=>intro w o;exact(KeepsL.set v).trans (ih (w.setCell ⟨g,o,none⟩ v) (o+1))
theorem GR.W.set {α:Type} {enc:α→List Value} {sz:Nat} {w:World} {a:Option Addr} {g:Nat} {l:List α} (hs:∀x,(enc x).length=sz) (h:GR.W enc sz w a g l) (k:Nat) (x:α) (hk:k < l.length):GR.W enc sz (GR.setW w g (k*sz) (enc x)) a g (l.set k x):=fun i hi=>by
 have hi':i < l.length:=by simpa using hi
 obtain⟨e,hg,hc⟩:=h i hi';refine⟨e,by rw [setW_sizeN];exact hg,fun j hj=>⟨?_,by rw [setW_frozenN];exact(hc j hj).2⟩⟩;by_cases hik:i=k
 ·subst hik
  rw [setW_cell_sameN (enc x) w (i*sz) (fun j' hj'=>by
   have hj4:j' < sz:=by rw [hs] at hj';exact hj'
   have h1:=(hc j' hj4).1
   rw [List.getElem?_eq_getElem (by rw [hs];exact hj4)] at h1
   exact⟨_,h1⟩) j (by rw [hs];exact hj)]
  simp
 ·have hcase:i*sz+j < k*sz∨k*sz+sz≤i*sz+j:=by
   rcases Nat.lt_or_gt_of_ne hik with h'|h'
   ·left
    have:=Nat.mul_le_mul_right sz (show i+1≤k by omega);exact Za118
   ·right
    have:=Nat.mul_le_mul_right sz (show k+1≤i by omega);exact Za118
  rw [setW_cell_otherN (enc x) w (k*sz) (by rw [hs];exact hcase),(hc j hj).1,List.getElem_set_ne (by omega)]
def mks {α:Type} (mk:Nat→α) (c s:Nat) (l:List α) (k:Nat):List α:=(List.range k).map (fun i=>mk (s+c*i))++l.drop k
theorem mks_length {α:Type} (mk:Nat→α) (c s:Nat) (l:List α) (k:Nat) (hk:k≤l.length):(mks mk c s l k).length=l.length:=by simp[mks];omega
theorem mks_zero {α:Type} (mk:Nat→α) (c s:Nat) (l:List α):mks mk c s l 0=l:=by simp[mks]
theorem mks_set {α:Type} (mk:Nat→α) (c s:Nat) (l:List α) (k:Nat) (hk:k < l.length):(mks mk c s l k).set k (mk (s+c*k))=mks mk c s l (k+1):=by
 have e:l.drop k=l[k]::l.drop (k+1):=List.drop_eq_getElem_cons hk;unfold mks;rw [e,List.set_append_right _ _ (by simp)];simp only[List.length_map,List.length_range,Nat.sub_self,List.set_cons_zero,List.range_succ,List.map_append,List.map_cons,List.map_nil,List.append_assoc,List.cons_append,List.nil_append]
theorem mks_at {α:Type} (mk:Nat→α) (c s:Nat) (l:List α) (n k:Nat) (hk:k < n) (hn:n≤l.length):(mks mk c s l n)[k]'(by rw [mks_length mk c s l n hn];omega)=mk (s+c*k):=by
 unfold mks;rw [List.getElem_append_left (by simpa using hk)];simp
theorem fp_keeps {α:Type} {g:Nat} {l:List α} {w w':World} (h:KeepsL [g] w w') (hl:0 < l.length):KeepsL (fp g l) w w':=h.mono (fun x hx=>by
 have:x=g:=by simpa using hx
 rw [this]
 exact fp_mem hl)
theorem fp_len {α β:Type} {g:Nat} {l:List α} {l':List β} (h:l.length=l'.length):fp g l=fp g l':=by
 unfold fp;cases l with
 |nil=>cases l' with|nil=>rfl|cons y l'=>simp at h
 |cons x l=>cases l' with|nil=>simp at h|cons y l'=>rfl
def GR.C (w:World) (a:Option Addr) (g:Nat) (cs:List Value):Prop:=∀j (hj:j < cs.length),a=some ⟨g,0,none⟩∧g < w.heap.size∧w.cell? ⟨g,j,none⟩=some cs[j]∧w.frozen? ⟨g,j,none⟩=false
theorem GR.C.set {w:World} {a:Option Addr} {g:Nat} {cs:List Value} (h:GR.C w a g cs) (k:Nat) (v:Value):GR.C (w.setCell ⟨g,k,none⟩ v) a g (cs.set k v):=fun j hj=>by
 have hj':j < cs.length:=by simpa using hj
 obtain⟨e,hg,hc,hf⟩:=h j hj';refine⟨e,by simpa [World.setCell] using hg,?_,by rw [World.frozen?_setCell];exact hf⟩;by_cases hjk:j=k
 ·subst hjk;rw [World.cell?_setCell_same _ _ _ hc];simp
 ·rw [World.cell?_setCell_other _ _ _ _ (by simp<;>omega),hc,List.getElem_set_ne (by omega)]
theorem GR.C.below {w w':World} {a:Option Addr} {g:Nat} {cs:List Value} (h:GR.C w a g cs) (hb:Below w.heap.size w w'):GR.C w' a g cs:=fun j hj=>by
 obtain⟨e,hg,hc,hf⟩:=h j hj;exact⟨e,Nat.lt_of_lt_of_le hg hb.size,(hb.cell (p:=⟨g,j,none⟩) hg).trans hc,(hb.frozen (p:=⟨g,j,none⟩) hg).trans hf⟩
theorem GR.W.toC {α:Type} {enc:α→List Value} {sz:Nat} {w:World} {a:Option Addr} {g:Nat} {l:List α} (hs:∀x,(enc x).length=sz) (hz:0 < sz) (h:GR.W enc sz w a g l):GR.C w a g (GR.flat enc l):=fun j hj=>by
 have hj2:j < l.length*sz:=by rwa [GR.flat_length enc sz hs] at hj
 have hq:j / sz < l.length:=Nat.div_lt_of_lt_mul (by rw [Nat.mul_comm];exact hj2);have hr:j % sz < sz:=Nat.mod_lt _ hz;have ej:j / sz*sz+j % sz=j:=Nat.div_add_mod' j sz;obtain⟨e,hg,hc⟩:=h (j / sz) hq;obtain⟨h1,h2⟩:=hc (j % sz) hr;have hf:=GR.flat_at enc sz hs l (j / sz) hq (j % sz) hr;rw [ej] at h1 h2 hf;exact⟨e,hg,by rw [h1,←hf,List.getElem?_eq_getElem hj],h2⟩
theorem GR.C.toW {α:Type} {enc:α→List Value} {sz:Nat} {w:World} {a:Option Addr} {g:Nat} {l:List α} (hs:∀x,(enc x).length=sz) (hz:0 < sz) (h:GR.C w a g (GR.flat enc l)):GR.W enc sz w a g l:=fun i hi=>by
 have hlt:∀j,j < sz→i*sz+j < (GR.flat enc l).length:=fun j hj=>by
  rw [GR.flat_length enc sz hs]
  have:=Nat.mul_le_mul_right sz (show i+1≤l.length by omega)
  rw [Nat.add_mul,Nat.one_mul] at this
  omega
 refine⟨(h (i*sz+0) (hlt 0 hz)).1,(h (i*sz+0) (hlt 0 hz)).2.1,fun j hj=>?_⟩;obtain⟨_,_,hc,hf⟩:=h (i*sz+j) (hlt j hj);refine⟨?_,hf⟩;rw [hc,←GR.flat_at enc sz hs l i hi j hj,List.getElem?_eq_getElem]
theorem markTextI (k:Nat) (z:Int) (w:World) (hz:z=k) (h0:0 < k) (hk:(k:Int)≤9223372036854775807):
 Calls Tryz.prog 81 #[.int .i64 z] w fun e w'=>e= .returned (.string (mark k))∧Below w.heap.size w w':=by
 subst hz;exact markText k w h0 hk
end Go.Proofs.YtppmcficiphgdaaGreatDoor
namespace Go.Proofs.YtppmcficiphgdaaGreatDoor
set_option maxHeartbeats 2000000
set_option maxRecDepth 100000
open Go.RowKit
open Mth
def mkPurse (k:Nat):Pu:=⟨mark k,(k:Int)+1,(k:Int)+2,(k:Int)+3⟩
theorem GR.W.fourPurse {w:World} {a:Option Addr} {g:Nat} {l:List Pu} (h:GR.W encP 4 w a g l) (i:Nat) (hi:i < l.length):a=some ⟨g,0,none⟩∧g < w.heap.size∧(w.cell? ⟨g,i*4,none⟩=some (.string l[i].k)∧w.cell? ⟨g,i*4+1,none⟩=some (.int .i64 l[i].m)∧w.cell? ⟨g,i*4+2,none⟩=some (.int .i64 l[i].f)∧w.cell? ⟨g,i*4+3,none⟩=some (.int .i64 l[i].s))∧w.frozen? ⟨g,i*4,none⟩=false∧w.frozen? ⟨g,i*4+1,none⟩=false∧w.frozen? ⟨g,i*4+2,none⟩=false∧w.frozen? ⟨g,i*4+3,none⟩=false:=by
 exact Za13
theorem markPurseG (a:Option Addr) (g c s:Nat) (l:List Pu) (w:World) (hs0:0 < s) (hs1:s≤4000000000000) (hl:l.length≤1048600) (ha:GR.W encP 4 w a g l):
 Calls Tryz.prog 77 #[.slice a l.length c,.int .i64 s] w fun e w'=>e= .returned (.int .i64 (s+4*(l.length:Int)))∧GR.W encP 4 w' a g (mks mkPurse 4 s l l.length)∧KeepsL (fp g l) w w':=by
 have HA:=hide ha;clear ha;go_enter Tryz.func77,Tryz.ntmps77
 go_wp2_with fail;go_loopw [1,5] (fun kk i wr=>∃k m:Nat,k≤l.length∧i= .int .i64 k∧kk= .int .i64 m∧m=s+4*k∧GR.W encP 4 wr a g (mks mkPurse 4 s l k)∧KeepsL (fp g l) w wr) (fun _ i _=>l.length - (intOf i).toNat)
 case atStart=>exact Za38
 case round=>
  open Sa149 in exact Ya35
theorem heldPurseG (a:Option Addr) (g c n s:Nat) (l:List Pu) (w:World) (hn:n=l.length) (hs0:0 < s) (hs1:s≤4000000000000) (hl:l.length≤1048600) (ha:GR.W encP 4 w a g (mks mkPurse 4 s l l.length)):
 Calls Tryz.prog 83 #[.slice a n c,.int .i64 s] w fun e w'=>e= .returned (.int .i64 (s+4*(l.length:Int)))∧Below w.heap.size w w':=by
 have HA:=hide ha;clear ha;subst hn;go_enter Tryz.func83,Tryz.ntmps83
 go_wp2_with fail;go_loopw [1,5] (fun kk i wr=>∃k m:Nat,k≤l.length∧i= .int .i64 k∧kk= .int .i64 m∧m=s+4*k∧Below w.heap.size w wr) (fun _ i _=>l.length - (intOf i).toNat)
 case atStart=>exact Za55
 case round=>
  open Sa267 in exact Ya71
def mkSent (k:Nat):Snt:=⟨(k:Int),(k:Int)+1,mark (k+2),(k:Int)+3⟩
theorem GR.W.fourSent {w:World} {a:Option Addr} {g:Nat} {l:List Snt} (h:GR.W encSnt 4 w a g l) (i:Nat) (hi:i < l.length):a=some ⟨g,0,none⟩∧g < w.heap.size∧(w.cell? ⟨g,i*4,none⟩=some (.int .i64 l[i].i)∧w.cell? ⟨g,i*4+1,none⟩=some (.int .i64 l[i].t)∧w.cell? ⟨g,i*4+2,none⟩=some (.string l[i].k)∧w.cell? ⟨g,i*4+3,none⟩=some (.int .i64 l[i].n))∧w.frozen? ⟨g,i*4,none⟩=false∧w.frozen? ⟨g,i*4+1,none⟩=false∧w.frozen? ⟨g,i*4+2,none⟩=false∧w.frozen? ⟨g,i*4+3,none⟩=false:=by
 exact Za13
theorem markSentG (a:Option Addr) (g c s:Nat) (l:List Snt) (w:World) (hs0:0 < s) (hs1:s≤4000000000000) (hl:l.length≤1048600) (ha:GR.W encSnt 4 w a g l):
 Calls Tryz.prog 78 #[.slice a l.length c,.int .i64 s] w fun e w'=>e= .returned (.int .i64 (s+4*(l.length:Int)))∧GR.W encSnt 4 w' a g (mks mkSent 4 s l l.length)∧KeepsL (fp g l) w w':=by
 have HA:=hide ha;clear ha;go_enter Tryz.func78,Tryz.ntmps78
 go_wp2_with fail;go_loopw [1,5] (fun kk i wr=>∃k m:Nat,k≤l.length∧i= .int .i64 k∧kk= .int .i64 m∧m=s+4*k∧GR.W encSnt 4 wr a g (mks mkSent 4 s l k)∧KeepsL (fp g l) w wr) (fun _ i _=>l.length - (intOf i).toNat)
 case atStart=>exact Za38
 case round=>
  open Sa148 in exact Ya35
theorem heldSentG (a:Option Addr) (g c n s:Nat) (l:List Snt) (w:World) (hn:n=l.length) (hs0:0 < s) (hs1:s≤4000000000000) (hl:l.length≤1048600) (ha:GR.W encSnt 4 w a g (mks mkSent 4 s l l.length)):
 Calls Tryz.prog 84 #[.slice a n c,.int .i64 s] w fun e w'=>e= .returned (.int .i64 (s+4*(l.length:Int)))∧Below w.heap.size w w':=by
 have HA:=hide ha;clear ha;subst hn;go_enter Tryz.func84,Tryz.ntmps84
 go_wp2_with fail;go_loopw [1,5] (fun kk i wr=>∃k m:Nat,k≤l.length∧i= .int .i64 k∧kk= .int .i64 m∧m=s+4*k∧Below w.heap.size w wr) (fun _ i _=>l.length - (intOf i).toNat)
 case atStart=>exact Za55
 case round=>
  open Sa266 in exact Ya71
def mkReq (k:Nat):Rq:=⟨(k:Int),mark (k+1),(k:Int)+2,(k:Int)+3⟩
theorem GR.W.fourReq {w:World} {a:Option Addr} {g:Nat} {l:List Rq} (h:GR.W encRq 4 w a g l) (i:Nat) (hi:i < l.length):a=some ⟨g,0,none⟩∧g < w.heap.size∧(w.cell? ⟨g,i*4,none⟩=some (.int .i64 l[i].no)∧w.cell? ⟨g,i*4+1,none⟩=some (.string l[i].k)∧w.cell? ⟨g,i*4+2,none⟩=some (.int .i64 l[i].n)∧w.cell? ⟨g,i*4+3,none⟩=some (.int .i64 l[i].s))∧w.frozen? ⟨g,i*4,none⟩=false∧w.frozen? ⟨g,i*4+1,none⟩=false∧w.frozen? ⟨g,i*4+2,none⟩=false∧w.frozen? ⟨g,i*4+3,none⟩=false:=by
 exact Za13
theorem markReqG (a:Option Addr) (g c s:Nat) (l:List Rq) (w:World) (hs0:0 < s) (hs1:s≤4000000000000) (hl:l.length≤1048600) (ha:GR.W encRq 4 w a g l):
 Calls Tryz.prog 80 #[.slice a l.length c,.int .i64 s] w fun e w'=>e= .returned (.int .i64 (s+4*(l.length:Int)))∧GR.W encRq 4 w' a g (mks mkReq 4 s l l.length)∧KeepsL (fp g l) w w':=by
 have HA:=hide ha;clear ha;go_enter Tryz.func80,Tryz.ntmps80
 go_wp2_with fail;go_loopw [1,5] (fun kk i wr=>∃k m:Nat,k≤l.length∧i= .int .i64 k∧kk= .int .i64 m∧m=s+4*k∧GR.W encRq 4 wr a g (mks mkReq 4 s l k)∧KeepsL (fp g l) w wr) (fun _ i _=>l.length - (intOf i).toNat)
 case atStart=>exact Za38
 case round=>
  open Sa147 in exact Ya35
theorem heldReqG (a:Option Addr) (g c n s:Nat) (l:List Rq) (w:World) (hn:n=l.length) (hs0:0 < s) (hs1:s≤4000000000000) (hl:l.length≤1048600) (ha:GR.W encRq 4 w a g (mks mkReq 4 s l l.length)):
 Calls Tryz.prog 86 #[.slice a n c,.int .i64 s] w fun e w'=>e= .returned (.int .i64 (s+4*(l.length:Int)))∧Below w.heap.size w w':=by
 have HA:=hide ha;clear ha;subst hn;go_enter Tryz.func86,Tryz.ntmps86
 go_wp2_with fail;go_loopw [1,5] (fun kk i wr=>∃k m:Nat,k≤l.length∧i= .int .i64 k∧kk= .int .i64 m∧m=s+4*k∧Below w.heap.size w wr) (fun _ i _=>l.length - (intOf i).toNat)
 case atStart=>exact Za55
 case round=>
  open Sa265 in exact Ya71
def mkInt (k:Nat):Int:=k
theorem GR.W.one {w:World} {a:Option Addr} {g:Nat} {l:List Int} (h:GR.W encNum 1 w a g l) (i:Nat) (hi:i < l.length):a=some ⟨g,0,none⟩∧g < w.heap.size∧w.cell? ⟨g,i,none⟩=some (.int .i64 l[i])∧w.frozen? ⟨g,i,none⟩=false:=by
 obtain⟨e,hg,hc⟩:=h i hi;exact⟨e,hg,by simpa using(hc 0 (by omega)).1,by simpa using(hc 0 (by omega)).2⟩
theorem markIntG (a:Option Addr) (g c s:Nat) (l:List Int) (w:World) (hs0:0 < s) (hs1:s≤4000000000000) (hl:l.length≤1048600) (ha:GR.W encNum 1 w a g l):
 Calls Tryz.prog 76 #[.slice a l.length c,.int .i64 s] w fun e w'=>e= .returned (.int .i64 (s+(l.length:Int)))∧GR.W encNum 1 w' a g (mks mkInt 1 s l l.length)∧KeepsL (fp g l) w w':=by
 have HA:=hide ha;clear ha;go_enter Tryz.func76,Tryz.ntmps76
 go_wp2_with fail;go_loopw [1,5] (fun kk i wr=>∃k m:Nat,k≤l.length∧i= .int .i64 k∧kk= .int .i64 m∧m=s+1*k∧GR.W encNum 1 wr a g (mks mkInt 1 s l k)∧KeepsL (fp g l) w wr) (fun _ i _=>l.length - (intOf i).toNat)
 case atStart=>exact Za38
 case round=>
  open Sa146 in exact Ya35
theorem heldIntG (a:Option Addr) (g c n s:Nat) (l:List Int) (w:World) (hn:n=l.length) (hs0:0 < s) (hs1:s≤4000000000000) (hl:l.length≤1048600) (ha:GR.W encNum 1 w a g (mks mkInt 1 s l l.length)):
 Calls Tryz.prog 82 #[.slice a n c,.int .i64 s] w fun e w'=>e= .returned (.int .i64 (s+(l.length:Int)))∧Below w.heap.size w w':=by
 have HA:=hide ha;clear ha;subst hn;go_enter Tryz.func82,Tryz.ntmps82
 go_wp2_with fail;go_loopw [1,5] (fun kk i wr=>∃k m:Nat,k≤l.length∧i= .int .i64 k∧kk= .int .i64 m∧m=s+1*k∧Below w.heap.size w wr) (fun _ i _=>l.length - (intOf i).toNat)
 case atStart=>exact Za55
 case round=>
  open Sa264 in exact Ya71
end Go.Proofs.YtppmcficiphgdaaGreatDoor
