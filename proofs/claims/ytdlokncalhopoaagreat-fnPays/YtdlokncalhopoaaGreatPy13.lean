/- Parts. -/
import Derived.Test.YtdlokncalhopoaaGreatPy1
namespace Go.Proofs.YtdlokncalhopoaaGreat
set_option maxHeartbeats 2000000
set_option maxRecDepth 100000
open Go.RowKit
open Mth
theorem blk_lt {w:World} {g:Nat} {o:Obj} (h:w.heap[g]?=some o):g < w.heap.size:=by
 rcases Nat.lt_or_ge g w.heap.size with h'|h'
 ·exact h'
 ·rw [Array.getElem?_eq_none h'] at h;cases h
theorem blk_step {w w':World} {g:Nat} {o:Obj} (h:w.heap[g]?=some o) (hb:Below w.heap.size w w'):w'.heap[g]?=some o:=by
 rw [hb.block g (blk_lt h)]
 exact h
theorem cells3 {w:World} {g:Nat} {a0 a1 a2:Value} {t:TypeId} (h:w.heap[g]?=some (.cells #[a0,a1,a2] t (0,0))):
 w.cell? ⟨g,0,none⟩=some a0∧w.cell? ⟨g,1,none⟩=some a1∧w.cell? ⟨g,2,none⟩=some a2:=by
 have hc:∀i,w.cell? ⟨g,i,none⟩=#[a0,a1,a2][i]?:=fun i=>cell_of_row w g i _ t (0,0) h
 exact⟨hc 0,hc 1,hc 2⟩
theorem cells4 {w:World} {g:Nat} {a0 a1 a2 a3:Value} {t:TypeId} (h:w.heap[g]?=some (.cells #[a0,a1,a2,a3] t (0,0))):
 w.cell? ⟨g,0,none⟩=some a0∧w.cell? ⟨g,1,none⟩=some a1∧w.cell? ⟨g,2,none⟩=some a2∧w.cell? ⟨g,3,none⟩=some a3:=by
 have hc:∀i,w.cell? ⟨g,i,none⟩=#[a0,a1,a2,a3][i]?:=fun i=>cell_of_row w g i _ t (0,0) h
 exact⟨hc 0,hc 1,hc 2,hc 3⟩
theorem cells6 {w:World} {g:Nat} {a0 a1 a2 a3 a4 a5:Value} {t:TypeId} (h:w.heap[g]?=some (.cells #[a0,a1,a2,a3,a4,a5] t (0,0))):
 w.cell? ⟨g,0,none⟩=some a0∧w.cell? ⟨g,1,none⟩=some a1∧w.cell? ⟨g,2,none⟩=some a2∧w.cell? ⟨g,3,none⟩=some a3∧w.cell? ⟨g,4,none⟩=some a4∧w.cell? ⟨g,5,none⟩=some a5:=by
 have hc:∀i,w.cell? ⟨g,i,none⟩=#[a0,a1,a2,a3,a4,a5][i]?:=fun i=>cell_of_row w g i _ t (0,0) h
 exact⟨hc 0,hc 1,hc 2,hc 3,hc 4,hc 5⟩
theorem cells7 {w:World} {g:Nat} {a0 a1 a2 a3 a4 a5 a6:Value} {t:TypeId} (h:w.heap[g]?=some (.cells #[a0,a1,a2,a3,a4,a5,a6] t (0,0))):
 w.cell? ⟨g,0,none⟩=some a0∧w.cell? ⟨g,1,none⟩=some a1∧w.cell? ⟨g,2,none⟩=some a2∧w.cell? ⟨g,3,none⟩=some a3∧w.cell? ⟨g,4,none⟩=some a4∧w.cell? ⟨g,5,none⟩=some a5∧w.cell? ⟨g,6,none⟩=some a6:=by
 have hc:∀i,w.cell? ⟨g,i,none⟩=#[a0,a1,a2,a3,a4,a5,a6][i]?:=fun i=>cell_of_row w g i _ t (0,0) h
 exact⟨hc 0,hc 1,hc 2,hc 3,hc 4,hc 5,hc 6⟩
theorem routeOk (F T:Int) (r:Bool) (w:World) (h:rtB F T=r):Calls Tryz.prog 116 #[.agg #[.int .i64 F,.int .i64 T]] w fun e w'=>e= .returned (.bool r)∧Below w.heap.size w w':=by
 subst h
 cases h1:ndB F
 case' false=>
  have HP:=hide (show rtB F T=false by simp[rtB,h1])
  have H1:=hide (fun w1=>isNode F false w1 h1)
  clear h1
  go_enter Tryz.func116,Tryz.ntmps116
  go_wp2_with (first|(go_at_call_of 53 F;refine(unhide H1 _).mono ?_;rintro e w1 ⟨rfl,rfl⟩))
  go_ret
  exact⟨ret_bool (unhide HP).symm,below_one w _⟩
 have H1:=hide (fun w1=>isNode F true w1 h1)
 cases h2:ndB T
 case' false=>
  have HP:=hide (show rtB F T=false by simp[rtB,h2])
  have H2:=hide (fun w1=>isNode T false w1 h2)
  clear h1 h2
  go_enter Tryz.func116,Tryz.ntmps116
  go_wp2_with (first|(go_at_call_of 53 F;refine(unhide H1 _).mono ?_;rintro e w1 ⟨rfl,rfl⟩)|(go_at_call_of 53 T;refine(unhide H2 _).mono ?_;rintro e w1 ⟨rfl,rfl⟩))
  go_ret
  exact⟨ret_bool (unhide HP).symm,below_one w _⟩
 have H2:=hide (fun w1=>isNode T true w1 h2)
 by_cases hft:F=T
 case' pos=>
  have HP:=hide (show rtB F T=false by simp[rtB,hft])
  clear h1 h2
  subst hft
  go_enter Tryz.func116,Tryz.ntmps116
  go_wp2_with (first|(go_at_call_of 53 F;refine(unhide H1 _).mono ?_;rintro e w1 ⟨rfl,rfl⟩))
  go_ret
  exact⟨ret_bool (unhide HP).symm,below_one w _⟩
 have HP:=hide (show rtB F T=true by simp[rtB,h1,h2,hft])
 have he:(F != T)=true:=by simp[hft]
 clear h1 h2
 go_enter Tryz.func116,Tryz.ntmps116
 go_wp2_with (first|(go_at_call_of 53 F;refine(unhide H1 _).mono ?_;rintro e w1 ⟨rfl,rfl⟩)|(go_at_call_of 53 T;refine(unhide H2 _).mono ?_;rintro e w1 ⟨rfl,rfl⟩))
 go_ret
 exact⟨ret_bool (by first|exact(unhide HP).symm|exact he.trans (unhide HP).symm),below_one w _⟩
theorem wantOk (F T:Int) (k:ByteArray) (N:Int) (r:Bool) (w:World) (h:(rtB F T&&keyOk k.data.toList&&smB N)=r):Calls Tryz.prog 117 #[.agg #[.int .i64 F,.int .i64 T,.string k,.int .i64 N]] w fun e w'=>e= .returned (.bool r)∧Below w.heap.size w w':=by
 have HQ:=hide h
 clear h
 cases hr:rtB F T
 case' false=>
  have HP:=hide (show(rtB F T&&keyOk k.data.toList&&smB N)=false by simp[hr])
  have HR:=hide (fun w1=>routeOk F T false w1 hr)
  clear hr
  go_enter Tryz.func117,Tryz.ntmps117
  go_wp2_with (first|(go_at_call 116;refine(unhide HR _).mono ?_;rintro e w2 ⟨rfl,hb2⟩;have hA:=blk_step (heap_alloc_new w _) hb2;have hB:=(below_one w _).trans (hb2.mono (by simp));obtain⟨c0,c1,c2,c3⟩:=cells4 hA;have hz:=blk_lt hA;clear hA hb2))
  go_ret
  exact⟨ret_bool ((unhide HP).symm.trans (unhide HQ)),hB⟩
 have HR:=hide (fun w1=>routeOk F T true w1 hr)
 cases hc0:keyOk k.data.toList
 case' false=>
  have HP:=hide (show(rtB F T&&keyOk k.data.toList&&smB N)=false by simp[hr,hc0])
  have HC0:=hide (fun w1=>implKeyR k false w1 hc0)
  clear hr hc0
  go_enter Tryz.func117,Tryz.ntmps117
  go_wp2_with (first|(go_at_call 116;refine(unhide HR _).mono ?_;rintro e w2 ⟨rfl,hb2⟩;have hA:=blk_step (heap_alloc_new w _) hb2;have hB:=(below_one w _).trans (hb2.mono (by simp));obtain⟨c0,c1,c2,c3⟩:=cells4 hA;have hz:=blk_lt hA;clear hA hb2)|(go_at_call_of 56 k;refine(unhide HC0 _).mono ?_;rintro e w1 ⟨rfl,rfl⟩))
  go_ret
  exact⟨ret_bool ((unhide HP).symm.trans (unhide HQ)),hB⟩
 have HC0:=hide (fun w1=>implKeyR k true w1 hc0)
 cases hc1:smB N
 case' false=>
  have HP:=hide (show(rtB F T&&keyOk k.data.toList&&smB N)=false by simp[hr,hc0,hc1])
  have HC1:=hide (fun w1=>isSomeAmount N false w1 hc1)
  clear hr hc0 hc1
  go_enter Tryz.func117,Tryz.ntmps117
  go_wp2_with (first|(go_at_call 116;refine(unhide HR _).mono ?_;rintro e w2 ⟨rfl,hb2⟩;have hA:=blk_step (heap_alloc_new w _) hb2;have hB:=(below_one w _).trans (hb2.mono (by simp));obtain⟨c0,c1,c2,c3⟩:=cells4 hA;have hz:=blk_lt hA;clear hA hb2)|(go_at_call_of 56 k;refine(unhide HC0 _).mono ?_;rintro e w1 ⟨rfl,rfl⟩)|(go_at_call_of 33 N;refine(unhide HC1 _).mono ?_;rintro e w1 ⟨rfl,rfl⟩))
  go_ret
  exact⟨ret_bool ((unhide HP).symm.trans (unhide HQ)),hB⟩
 have HC1:=hide (fun w1=>isSomeAmount N true w1 hc1)
 have HP:=hide (show(rtB F T&&keyOk k.data.toList&&smB N)=true by simp[hr,hc0,hc1])
 clear hr hc0 hc1
 go_enter Tryz.func117,Tryz.ntmps117
 go_wp2_with (first|(go_at_call 116;refine(unhide HR _).mono ?_;rintro e w2 ⟨rfl,hb2⟩;have hA:=blk_step (heap_alloc_new w _) hb2;have hB:=(below_one w _).trans (hb2.mono (by simp));obtain⟨c0,c1,c2,c3⟩:=cells4 hA;have hz:=blk_lt hA;clear hA hb2)|(go_at_call_of 56 k;refine(unhide HC0 _).mono ?_;rintro e w1 ⟨rfl,rfl⟩)|(go_at_call_of 33 N;refine(unhide HC1 _).mono ?_;rintro e w1 ⟨rfl,rfl⟩))
 go_ret
 exact⟨ret_bool ((unhide HP).symm.trans (unhide HQ)),hB⟩
theorem payOk (F T I L:Int) (k:ByteArray) (N:Int) (r:Bool) (w:World) (h:(rtB F T&&smB I&&decide (1≤L)&&decide (L≤I)&&keyOk k.data.toList&&smB N)=r):Calls Tryz.prog 118 #[.agg #[.int .i64 F,.int .i64 T,.int .i64 I,.int .i64 L,.string k,.int .i64 N]] w fun e w'=>e= .returned (.bool r)∧Below w.heap.size w w':=by
 have HQ:=hide h
 clear h
 cases hr:rtB F T
 case' false=>
  have HP:=hide (show(rtB F T&&smB I&&decide (1≤L)&&decide (L≤I)&&keyOk k.data.toList&&smB N)=false by simp[hr])
  have HR:=hide (fun w1=>routeOk F T false w1 hr)
  clear hr
  go_enter Tryz.func118,Tryz.ntmps118
  go_wp2_with (first|(go_at_call 116;refine(unhide HR _).mono ?_;rintro e w2 ⟨rfl,hb2⟩;have hA:=blk_step (heap_alloc_new w _) hb2;have hB:=(below_one w _).trans (hb2.mono (by simp));obtain⟨c0,c1,c2,c3,c4,c5⟩:=cells6 hA;have hz:=blk_lt hA;clear hA hb2))
  go_ret
  exact⟨ret_bool ((unhide HP).symm.trans (unhide HQ)),hB⟩
 have HR:=hide (fun w1=>routeOk F T true w1 hr)
 cases hc0:smB I
 case' false=>
  have HP:=hide (show(rtB F T&&smB I&&decide (1≤L)&&decide (L≤I)&&keyOk k.data.toList&&smB N)=false by simp[hr,hc0])
  have HC0:=hide (fun w1=>isSomeAmount I false w1 hc0)
  clear hr hc0
  go_enter Tryz.func118,Tryz.ntmps118
  go_wp2_with (first|(go_at_call 116;refine(unhide HR _).mono ?_;rintro e w2 ⟨rfl,hb2⟩;have hA:=blk_step (heap_alloc_new w _) hb2;have hB:=(below_one w _).trans (hb2.mono (by simp));obtain⟨c0,c1,c2,c3,c4,c5⟩:=cells6 hA;have hz:=blk_lt hA;clear hA hb2)|(go_at_call_of 33 I;refine(unhide HC0 _).mono ?_;rintro e w1 ⟨rfl,rfl⟩))
  go_ret
  exact⟨ret_bool ((unhide HP).symm.trans (unhide HQ)),hB⟩
 have HC0:=hide (fun w1=>isSomeAmount I true w1 hc0)
 by_cases hd1:1≤L
 case' neg=>
  have HP:=hide (show(rtB F T&&smB I&&decide (1≤L)&&decide (L≤I)&&keyOk k.data.toList&&smB N)=false by simp[hr,hc0,hd1])
  clear hr hc0
  go_enter Tryz.func118,Tryz.ntmps118
  go_wp2_with (first|(go_at_call 116;refine(unhide HR _).mono ?_;rintro e w2 ⟨rfl,hb2⟩;have hA:=blk_step (heap_alloc_new w _) hb2;have hB:=(below_one w _).trans (hb2.mono (by simp));obtain⟨c0,c1,c2,c3,c4,c5⟩:=cells6 hA;have hz:=blk_lt hA;clear hA hb2)|(go_at_call_of 33 I;refine(unhide HC0 _).mono ?_;rintro e w1 ⟨rfl,rfl⟩))
  go_ret
  exact⟨ret_bool ((unhide HP).symm.trans (unhide HQ)),hB⟩
 by_cases hd2:L≤I
 case' neg=>
  have HP:=hide (show(rtB F T&&smB I&&decide (1≤L)&&decide (L≤I)&&keyOk k.data.toList&&smB N)=false by simp[hr,hc0,hd1,hd2])
  clear hr hc0
  go_enter Tryz.func118,Tryz.ntmps118
  go_wp2_with (first|(go_at_call 116;refine(unhide HR _).mono ?_;rintro e w2 ⟨rfl,hb2⟩;have hA:=blk_step (heap_alloc_new w _) hb2;have hB:=(below_one w _).trans (hb2.mono (by simp));obtain⟨c0,c1,c2,c3,c4,c5⟩:=cells6 hA;have hz:=blk_lt hA;clear hA hb2)|(go_at_call_of 33 I;refine(unhide HC0 _).mono ?_;rintro e w1 ⟨rfl,rfl⟩))
  go_ret
  exact⟨ret_bool ((unhide HP).symm.trans (unhide HQ)),hB⟩
 cases hc1:keyOk k.data.toList
 case' false=>
  have HP:=hide (show(rtB F T&&smB I&&decide (1≤L)&&decide (L≤I)&&keyOk k.data.toList&&smB N)=false by simp[hr,hc0,hd1,hd2,hc1])
  have HC1:=hide (fun w1=>implKeyR k false w1 hc1)
  clear hr hc0 hc1
  go_enter Tryz.func118,Tryz.ntmps118
  go_wp2_with (first|(go_at_call 116;refine(unhide HR _).mono ?_;rintro e w2 ⟨rfl,hb2⟩;have hA:=blk_step (heap_alloc_new w _) hb2;have hB:=(below_one w _).trans (hb2.mono (by simp));obtain⟨c0,c1,c2,c3,c4,c5⟩:=cells6 hA;have hz:=blk_lt hA;clear hA hb2)|(go_at_call_of 33 I;refine(unhide HC0 _).mono ?_;rintro e w1 ⟨rfl,rfl⟩)|(go_at_call_of 56 k;refine(unhide HC1 _).mono ?_;rintro e w1 ⟨rfl,rfl⟩))
  go_ret
  exact⟨ret_bool ((unhide HP).symm.trans (unhide HQ)),hB⟩
 have HC1:=hide (fun w1=>implKeyR k true w1 hc1)
 cases hc2:smB N
 case' false=>
  have HP:=hide (show(rtB F T&&smB I&&decide (1≤L)&&decide (L≤I)&&keyOk k.data.toList&&smB N)=false by simp[hr,hc0,hd1,hd2,hc1,hc2])
  have HC2:=hide (fun w1=>isSomeAmount N false w1 hc2)
  clear hr hc0 hc1 hc2
  go_enter Tryz.func118,Tryz.ntmps118
  go_wp2_with (first|(go_at_call 116;refine(unhide HR _).mono ?_;rintro e w2 ⟨rfl,hb2⟩;have hA:=blk_step (heap_alloc_new w _) hb2;have hB:=(below_one w _).trans (hb2.mono (by simp));obtain⟨c0,c1,c2,c3,c4,c5⟩:=cells6 hA;have hz:=blk_lt hA;clear hA hb2)|(go_at_call_of 33 I;refine(unhide HC0 _).mono ?_;rintro e w1 ⟨rfl,rfl⟩)|(go_at_call_of 56 k;refine(unhide HC1 _).mono ?_;rintro e w1 ⟨rfl,rfl⟩)|(go_at_call_of 33 N;refine(unhide HC2 _).mono ?_;rintro e w1 ⟨rfl,rfl⟩))
  go_ret
  exact⟨ret_bool ((unhide HP).symm.trans (unhide HQ)),hB⟩
 have HC2:=hide (fun w1=>isSomeAmount N true w1 hc2)
 have HP:=hide (show(rtB F T&&smB I&&decide (1≤L)&&decide (L≤I)&&keyOk k.data.toList&&smB N)=true by simp[hr,hc0,hd1,hd2,hc1,hc2])
 clear hr hc0 hc1 hc2
 go_enter Tryz.func118,Tryz.ntmps118
 go_wp2_with (first|(go_at_call 116;refine(unhide HR _).mono ?_;rintro e w2 ⟨rfl,hb2⟩;have hA:=blk_step (heap_alloc_new w _) hb2;have hB:=(below_one w _).trans (hb2.mono (by simp));obtain⟨c0,c1,c2,c3,c4,c5⟩:=cells6 hA;have hz:=blk_lt hA;clear hA hb2)|(go_at_call_of 33 I;refine(unhide HC0 _).mono ?_;rintro e w1 ⟨rfl,rfl⟩)|(go_at_call_of 56 k;refine(unhide HC1 _).mono ?_;rintro e w1 ⟨rfl,rfl⟩)|(go_at_call_of 33 N;refine(unhide HC2 _).mono ?_;rintro e w1 ⟨rfl,rfl⟩))
 go_ret
 exact⟨ret_bool ((unhide HP).symm.trans (unhide HQ)),hB⟩
theorem ackOk (F T I:Int) (r:Bool) (w:World) (h:(rtB F T&&smB I)=r):Calls Tryz.prog 119 #[.agg #[.int .i64 F,.int .i64 T,.int .i64 I]] w fun e w'=>e= .returned (.bool r)∧Below w.heap.size w w':=by
 have HQ:=hide h
 clear h
 cases hr:rtB F T
 case' false=>
  have HP:=hide (show(rtB F T&&smB I)=false by simp[hr])
  have HR:=hide (fun w1=>routeOk F T false w1 hr)
  clear hr
  go_enter Tryz.func119,Tryz.ntmps119
  go_wp2_with (first|(go_at_call 116;refine(unhide HR _).mono ?_;rintro e w2 ⟨rfl,hb2⟩;have hA:=blk_step (heap_alloc_new w _) hb2;have hB:=(below_one w _).trans (hb2.mono (by simp));obtain⟨c0,c1,c2⟩:=cells3 hA;have hz:=blk_lt hA;clear hA hb2))
  go_ret
  exact⟨ret_bool ((unhide HP).symm.trans (unhide HQ)),hB⟩
 have HR:=hide (fun w1=>routeOk F T true w1 hr)
 cases hc0:smB I
 case' false=>
  have HP:=hide (show(rtB F T&&smB I)=false by simp[hr,hc0])
  have HC0:=hide (fun w1=>isSomeAmount I false w1 hc0)
  clear hr hc0
  go_enter Tryz.func119,Tryz.ntmps119
  go_wp2_with (first|(go_at_call 116;refine(unhide HR _).mono ?_;rintro e w2 ⟨rfl,hb2⟩;have hA:=blk_step (heap_alloc_new w _) hb2;have hB:=(below_one w _).trans (hb2.mono (by simp));obtain⟨c0,c1,c2⟩:=cells3 hA;have hz:=blk_lt hA;clear hA hb2)|(go_at_call_of 33 I;refine(unhide HC0 _).mono ?_;rintro e w1 ⟨rfl,rfl⟩))
  go_ret
  exact⟨ret_bool ((unhide HP).symm.trans (unhide HQ)),hB⟩
 have HC0:=hide (fun w1=>isSomeAmount I true w1 hc0)
 have HP:=hide (show(rtB F T&&smB I)=true by simp[hr,hc0])
 clear hr hc0
 go_enter Tryz.func119,Tryz.ntmps119
 go_wp2_with (first|(go_at_call 116;refine(unhide HR _).mono ?_;rintro e w2 ⟨rfl,hb2⟩;have hA:=blk_step (heap_alloc_new w _) hb2;have hB:=(below_one w _).trans (hb2.mono (by simp));obtain⟨c0,c1,c2⟩:=cells3 hA;have hz:=blk_lt hA;clear hA hb2)|(go_at_call_of 33 I;refine(unhide HC0 _).mono ?_;rintro e w1 ⟨rfl,rfl⟩))
 go_ret
 exact⟨ret_bool ((unhide HP).symm.trans (unhide HQ)),hB⟩
set_option maxHeartbeats 2000000
theorem as_want_want (v:Value) (w:World):(Instr.typeAssert (.iface 85 v) 58 85 true).run Tryz.prog w= .ok (.tuple #[v,.bool true]) w:=by kernel_rfl
theorem as_pay_want (v:Value) (w:World):(Instr.typeAssert (.iface 87 v) 58 85 true).run Tryz.prog w= .ok (.tuple #[.agg #[.int .i64 0,.int .i64 0,.string ⟨#[]⟩,.int .i64 0],.bool false]) w:=by kernel_rfl
theorem as_pay_pay (v:Value) (w:World):(Instr.typeAssert (.iface 87 v) 58 87 true).run Tryz.prog w= .ok (.tuple #[v,.bool true]) w:=by kernel_rfl
theorem as_ack_want (v:Value) (w:World):(Instr.typeAssert (.iface 89 v) 58 85 true).run Tryz.prog w= .ok (.tuple #[.agg #[.int .i64 0,.int .i64 0,.string ⟨#[]⟩,.int .i64 0],.bool false]) w:=by kernel_rfl
theorem as_ack_pay (v:Value) (w:World):(Instr.typeAssert (.iface 89 v) 58 87 true).run Tryz.prog w= .ok (.tuple #[.agg #[.int .i64 0,.int .i64 0,.int .i64 0,.int .i64 0,.string ⟨#[]⟩,.int .i64 0],.bool false]) w:=by kernel_rfl
theorem as_ack_ack (v:Value) (w:World):(Instr.typeAssert (.iface 89 v) 58 89 true).run Tryz.prog w= .ok (.tuple #[v,.bool true]) w:=by kernel_rfl
theorem msgOf_want (F T:Int) (k:ByteArray) (N:Int) (w:World):Calls Tryz.prog 42 #[.iface 85 (.agg #[.int .i64 F,.int .i64 T,.string k,.int .i64 N])] w fun e w'=>e= .returned (mgv ⟨0,F,T,0,0,k,N⟩)∧Below w.heap.size w w':=by
 have f0:=as_want_want (.agg #[.int .i64 F,.int .i64 T,.string k,.int .i64 N])
 go_enter Tryz.func42,Tryz.ntmps42
 go_wp2_with fail
 refine bodyPost_ret (v:= .agg #[.int .i64 0,.int .i64 F,.int .i64 T,.int .i64 0,.int .i64 0,.string k,.int .i64 N]) (by simp[results,Tryz.results42,go_sem];try rfl) rfl ⟨rfl,?_⟩
 exact((Below.refl _ _).alloc (Nat.le_refl _) _).alloc (by simp) _
theorem msgOf_pay (F T I L:Int) (k:ByteArray) (N:Int) (w:World):Calls Tryz.prog 42 #[.iface 87 (.agg #[.int .i64 F,.int .i64 T,.int .i64 I,.int .i64 L,.string k,.int .i64 N])] w fun e w'=>e= .returned (mgv ⟨1,F,T,I,L,k,N⟩)∧Below w.heap.size w w':=by
 have f0:=as_pay_want (.agg #[.int .i64 F,.int .i64 T,.int .i64 I,.int .i64 L,.string k,.int .i64 N])
 have f1:=as_pay_pay (.agg #[.int .i64 F,.int .i64 T,.int .i64 I,.int .i64 L,.string k,.int .i64 N])
 go_enter Tryz.func42,Tryz.ntmps42
 go_wp2_with fail
 refine bodyPost_ret (v:= .agg #[.int .i64 1,.int .i64 F,.int .i64 T,.int .i64 I,.int .i64 L,.string k,.int .i64 N]) (by simp[results,Tryz.results42,go_sem];try rfl) rfl ⟨rfl,?_⟩
 exact((Below.refl _ _).alloc (Nat.le_refl _) _).alloc (by simp) _
theorem msgOf_ack (F T I:Int) (w:World):Calls Tryz.prog 42 #[.iface 89 (.agg #[.int .i64 F,.int .i64 T,.int .i64 I])] w fun e w'=>e= .returned (mgv ⟨2,F,T,I,0,ByteArray.empty,0⟩)∧Below w.heap.size w w':=by
 have f0:=as_ack_want (.agg #[.int .i64 F,.int .i64 T,.int .i64 I])
 have f1:=as_ack_pay (.agg #[.int .i64 F,.int .i64 T,.int .i64 I])
 have f2:=as_ack_ack (.agg #[.int .i64 F,.int .i64 T,.int .i64 I])
 go_enter Tryz.func42,Tryz.ntmps42
 go_wp2_with fail
 refine bodyPost_ret (v:= .agg #[.int .i64 2,.int .i64 F,.int .i64 T,.int .i64 I,.int .i64 0,.string ByteArray.empty,.int .i64 0]) (by simp[results,Tryz.results42,go_sem];try rfl) rfl ⟨rfl,?_⟩
 exact((Below.refl _ _).alloc (Nat.le_refl _) _).alloc (by simp) _
end Go.Proofs.YtdlokncalhopoaaGreat
