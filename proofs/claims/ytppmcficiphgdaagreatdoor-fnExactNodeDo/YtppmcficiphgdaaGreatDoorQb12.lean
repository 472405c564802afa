/- Parts. -/
import Derived.Test.YtppmcficiphgdaaGreatDoorQa12
import Derived.Test.YtppmcficiphgdaaGreatDoorQb11
import Derived.Test.YtppmcficiphgdaaGreatDoorQa13
import Derived.Deep.DeepCutAuto
namespace Go.Proofs.YtppmcficiphgdaaGreatDoor
set_option maxHeartbeats 2000000
set_option maxRecDepth 100000
open Go.RowKit
open Go.WideShapes
open Mth
theorem szMsgL (m:Mg) (z:Int) (w:World) (h0:0≤z) (h1:z≤1048576) (h2:m.k.size≤maxLen):Calls Tryz.prog 56 #[mgv m,.int .i64 z] w fun e w'=>e= .returned (.int .i64 (if z - m.k.size < 0 then -1 else z - m.k.size))∧Below w.heap.size w w':=by
 obtain⟨K,F,T,I,L,k,N⟩:=m;dsimp only at h2;unfold maxLen at h2;by_cases hn:(z - k.size:Int) < 0
 all_goals
  go_enter Tryz.func56,Tryz.ntmps56
  go_wp2_with fail
  go_ret
  exact⟨rfl,below_one w _⟩
theorem szOp (o:Op5) (z:Int) (w:World) (h0:0≤z) (h1:z≤1048576) (h2:o.k.size≤maxLen) (h3:o.m.k.size≤maxLen):Calls Tryz.prog 18 #[opw o,.int .i64 z] w fun e w'=>∃r:Int,e= .returned (.int .i64 r)∧(r= -1∨0≤r∧r≤z∧o.k.size≤1048576∧o.m.k.size≤1048576)∧Below w.heap.size w w':=by
 obtain⟨K,no,k,n,m⟩:=o;dsimp only at h2 h3;by_cases hn:(z - k.size:Int) < 0
 ·obtain⟨mK,mF,mT,mI,mL,mk,mN⟩:=m;unfold maxLen at h2 h3;go_enter Tryz.func18,Tryz.ntmps18
  go_wp2_with fail;go_ret;exact⟨_,rfl,.inl rfl,below_one w _⟩
 ·have HM:=hide (fun w1=>szMsgL m (z - k.size) w1 (by omega) (by omega) h3);have hks:k.size≤1048576:=by omega
  have hmz:m.k.size≤9223372036854775807:=by unfold maxLen at h3;omega
  obtain⟨mK,mF,mT,mI,mL,mk,mN⟩:=m;dsimp only at hmz HM;clear h2 h3;go_enter Tryz.func18,Tryz.ntmps18
  go_wp2_with fail;refine(HM _).mono ?_;by_cases hn2:(z - k.size - mk.size:Int) < 0
  ·rw [if_pos hn2];rintro e w1 ⟨rfl,hb1⟩;have HB:=hide ((below_one w _).trans (hb1.mono (by simp)));clear hb1 HM;go_wp2_with fail;go_ret;exact⟨_,rfl,.inl rfl,HB⟩
  ·rw [if_neg hn2];rintro e w1 ⟨rfl,hb1⟩;have HB:=hide ((below_one w _).trans (hb1.mono (by simp)));clear hb1 HM;go_wp2_with fail;go_ret;exact⟨_,rfl,.inr ⟨by omega,by omega,hks,by omega⟩,HB⟩
theorem eleven_size {α:Type} {cs:Array α} (h:cs.size=11):∃a b c d e f g i j k l,cs=#[a,b,c,d,e,f,g,i,j,k,l]:=by
 obtain⟨l⟩:=cs;match l,h with
 |[a,b,c,d,e,f,g,i,j,k,l],_=>exact⟨a,b,c,d,e,f,g,i,j,k,l,rfl⟩
theorem opCells:Tryz.prog.cellsOf 58=11:=by kernel_rfl
theorem open_op {H:Type} {enc:TypeId×Value→H} {W:World} {r:Reach} {base:Nat} {v:Value} {d:DataW H} {p:List MemPlace} (hv:Value.okWide Tryz.prog W r base 58 v) (h:DataW.Trod enc Tryz.prog W 0 (fun _=>true) true 58 v d p):
 ∃o:Op5,v=opw o∧o.k.size≤maxLen∧o.m.k.size≤maxLen:=by
 simp only[Value.okWide,Tryz.underlying58] at hv;obtain⟨cs,rfl,hsz,ts,hts,_,hall⟩:=hv;obtain⟨fuel,hf⟩:=h;obtain⟨a0,a1,a2,a3,a4,a5,a6,a7,a8,a9,a10,rfl⟩:=eleven_size (hsz.trans opCells);obtain⟨xs,k,_,_,_,hxl,hfl⟩:=DataW.trod_struct Tryz.underlying58 hf;match xs,hxl with
 |[y0,y1,y2,y3,y4],_=>
  have g0:=hfl 0 _ rfl
  have g1:=hfl 1 _ rfl
  have g2:=hfl 2 _ rfl
  have g3:=hfl 3 _ rfl
  have g4:=hfl 4 _ rfl
  simp[mgIntCells,mgStrCells,mgCells,Value.cells] at g0 g1 g2 g3 g4
  obtain⟨n0,q0,_⟩:=DataW.trod_int Tryz.underlying3 g0
  obtain⟨n1,q1,_⟩:=DataW.trod_int Tryz.underlying3 g1
  obtain⟨s2,q2,_,hs2⟩:=DataW.trod_string Tryz.underlying9 g2
  obtain⟨n3,q3,_⟩:=DataW.trod_int Tryz.underlying3 g3
  obtain⟨zs,kk,_,_,_,hzl,hgl⟩:=DataW.trod_struct Tryz.underlying56 g4
  match zs,hzl with
  |[z0,z1,z2,z3,z4,z5,z6],_=>
   have m0:=hgl 0 _ rfl
   have m1:=hgl 1 _ rfl
   have m2:=hgl 2 _ rfl
   have m3:=hgl 3 _ rfl
   have m4:=hgl 4 _ rfl
   have m5:=hgl 5 _ rfl
   have m6:=hgl 6 _ rfl
   simp[mgIntCells,mgStrCells] at m0 m1 m2 m3 m4 m5 m6
   obtain⟨e0,r0,_⟩:=DataW.trod_int Tryz.underlying3 m0
   obtain⟨e1,r1,_⟩:=DataW.trod_int Tryz.underlying3 m1
   obtain⟨e2,r2,_⟩:=DataW.trod_int Tryz.underlying3 m2
   obtain⟨e3,r3,_⟩:=DataW.trod_int Tryz.underlying3 m3
   obtain⟨e4,r4,_⟩:=DataW.trod_int Tryz.underlying3 m4
   obtain⟨e5,r5,_,hs5⟩:=DataW.trod_string Tryz.underlying9 m5
   obtain⟨e6,r6,_⟩:=DataW.trod_int Tryz.underlying3 m6
   simp at q0 q1 q2 q3 r0 r1 r2 r3 r4 r5 r6
   subst q0 q1 q2 q3 r0 r1 r2 r3 r4 r5 r6
   exact⟨⟨n0,n1,s2,n3,⟨e0,e1,e2,e3,e4,e5,e6⟩⟩,rfl,hs2,hs5⟩
theorem allocsL3 (w:World) (a b c:Obj):(((w.alloc a).alloc b).alloc c).heap[w.heap.size]?=some a∧(((w.alloc a).alloc b).alloc c).heap[w.heap.size+1]?=some b∧(((w.alloc a).alloc b).alloc c).heap[w.heap.size+1+1]?=some c∧Below w.heap.size w (((w.alloc a).alloc b).alloc c):=by
 have e1:(w.alloc a).heap.size=w.heap.size+1:=by simp
 have e2:((w.alloc a).alloc b).heap.size=w.heap.size+1+1:=by simp
 have h2:=Below.heap_alloc ((w.alloc a).alloc b) c (w.heap.size+1) (by omega);have h3:=heap_alloc_new ((w.alloc a).alloc b) c;have h4:=heap_alloc_new (w.alloc a) b;have h5:=Below.heap_alloc ((w.alloc a).alloc b) c w.heap.size (by omega);have h6:=Below.heap_alloc (w.alloc a) b w.heap.size (by omega);rw [e2] at h3;rw [e1] at h4;exact⟨h5.trans (h6.trans (heap_alloc_new w a)),h2.trans h4,h3,((below_one w a).alloc (by omega) b).alloc (by omega) c⟩
theorem toOp (o:Op5) (w:World):Calls Tryz.prog 21 #[opw o] w fun e w'=>e= .returned (opw o)∧Below w.heap.size w w':=by
 obtain⟨K,no,k,n,m⟩:=o;have HT:=hide (fun w1=>toMsg m w1);obtain⟨mK,mF,mT,mI,mL,mk,mN⟩:=m;go_enter Tryz.func21,Tryz.ntmps21
 go_wp2_with fail;refine(HT _).mono ?_;rintro e w1 ⟨rfl,hb1⟩;obtain⟨hP,hR,hO,hB⟩:=allocsL3 w (.cells #[.int .i64 K,.int .i64 no,.string k,.int .i64 n,.int .i64 mK,.int .i64 mF,.int .i64 mT,.int .i64 mI,.int .i64 mL,.string mk,.int .i64 mN] 58) (.cells #[.int .i64 0,.int .i64 0,.string ⟨#[]⟩,.int .i64 0,.int .i64 0,.int .i64 0,.int .i64 0,.int .i64 0,.int .i64 0,.string ⟨#[]⟩,.int .i64 0] 34) (.cells #[.int .i64 K,.int .i64 no,.string k,.int .i64 n,.int .i64 0,.int .i64 0,.int .i64 0,.int .i64 0,.int .i64 0,.string ⟨#[]⟩,.int .i64 0] 34);have HR:=hide (blk_step hR hb1);have HO:=hide (blk_step hO hb1);have HB:=hide (hB.trans (hb1.mono hB.size));clear hP hR hO hB hb1 HT;have hz1:=blk_lt HR;have hz2:=blk_lt HO;obtain⟨⟨o0,o1,o2,o3,o4,o5,o6,o7,o8,o9,o10⟩,f0,f1,f2,f3,f4,f5,f6,f7,f8,f9,f10⟩:=eleven_at HO;go_upto_region 7 with fail;refine wp_at (fun W hW=>?_);have HOW:Hid (W.heap[w.heap.size+1+1]?=some (.cells #[.int .i64 K,.int .i64 no,.string k,.int .i64 n,.int .i64 mK,.int .i64 mF,.int .i64 mT,.int .i64 mI,.int .i64 mL,.string mk,.int .i64 mN] 34 (0,0))):=by rw [hW];exact eleven_tail HO
 have HRW:Hid (W.heap[w.heap.size+1]?=some (.cells #[.int .i64 0,.int .i64 0,.string ⟨#[]⟩,.int .i64 0,.int .i64 0,.int .i64 0,.int .i64 0,.int .i64 0,.int .i64 0,.string ⟨#[]⟩,.int .i64 0] 34 (0,0))):=by rw [hW];exact(eleven_tail_other (by omega)).trans HR
 have HBW:Hid (Below w.heap.size w W):=by rw [hW];exact eleven_tail_below HB (by omega)
 clear hW HO HR HB hz1 hz2 o0 o1 o2 o3 o4 o5 o6 o7 o8 o9 o10 f0 f1 f2 f3 f4 f5 f6 f7 f8 f9 f10;have hz1:=blk_lt HRW;have hz2:=blk_lt HOW;obtain⟨⟨o0,o1,o2,o3,o4,o5,o6,o7,o8,o9,o10⟩,_⟩:=eleven_at HOW;obtain⟨⟨r0,r1,r2,r3,r4,r5,r6,r7,r8,r9,r10⟩,f0,f1,f2,f3,f4,f5,f6,f7,f8,f9,f10⟩:=eleven_at HRW;go_wp2_with fail;refine bodyPost_atE (fun W' hW'=>?_);have hRR:W'.heap[w.heap.size+1]?=some (.cells #[.int .i64 K,.int .i64 no,.string k,.int .i64 n,.int .i64 mK,.int .i64 mF,.int .i64 mT,.int .i64 mI,.int .i64 mL,.string mk,.int .i64 mN] 34 (0,0)):=by rw [hW'];exact eleven_set HRW
 have hBB:Below w.heap.size w W':=by rw [hW'];exact eleven_set_below HBW (by omega)
 obtain⟨⟨x0,x1,x2,x3,x4,x5,x6,x7,x8,x9,x10⟩,_⟩:=eleven_at hRR;exact bodyPost_ret (v:= .agg #[.int .i64 K,.int .i64 no,.string k,.int .i64 n,.int .i64 mK,.int .i64 mF,.int .i64 mT,.int .i64 mI,.int .i64 mL,.string mk,.int .i64 mN]) (by simp[results,Tryz.results21,go_sem,x0,x1,x2,x3,x4,x5,x6,x7,x8,x9,x10]) rfl ⟨rfl,hBB⟩
end Go.Proofs.YtppmcficiphgdaaGreatDoor
