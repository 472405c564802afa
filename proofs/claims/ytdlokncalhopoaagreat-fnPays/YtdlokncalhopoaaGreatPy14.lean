/- Parts. -/
import Derived.Test.YtdlokncalhopoaaGreatPy13
import Derived.Test.YtdlokncalhopoaaGreatPy1
import Derived.Test.YtdlokncalhopoaaGreatPy3
import Derived.Lib.QuietBelow
import Derived.BigQuiet
import Derived.Deep.DeepCutAuto
import Derived.Lib.ItoaNum
import Derived.Lib.ItoaLen
import Derived.Laws.DeepStrings4
namespace Go.Proofs.YtdlokncalhopoaaGreat
set_option maxHeartbeats 2000000
set_option maxRecDepth 100000
open Go.RowKit
open Mth
def ifv (m:Mg):Value:=
 if m.K=0 then .iface 85 (.agg #[.int .i64 m.F,.int .i64 m.T,.string m.k,.int .i64 m.N])
 else if m.K=1 then .iface 87 (.agg #[.int .i64 m.F,.int .i64 m.T,.int .i64 m.I,.int .i64 m.L,.string m.k,.int .i64 m.N])
 else if m.K=2 then .iface 89 (.agg #[.int .i64 m.F,.int .i64 m.T,.int .i64 m.I])
 else .nilIface
theorem mt_want (v:Value) (w:World):(method 254 85 v "loop.example/g00264/impl.ok").run Tryz.prog w= .ok (117,v) w:=by kernel_rfl
theorem mt_pay (v:Value) (w:World):(method 254 87 v "loop.example/g00264/impl.ok").run Tryz.prog w= .ok (118,v) w:=by kernel_rfl
theorem mt_ack (v:Value) (w:World):(method 254 89 v "loop.example/g00264/impl.ok").run Tryz.prog w= .ok (119,v) w:=by kernel_rfl
theorem messageOf_want_no (F:Int) (T:Int) (I:Int) (L:Int) (k:ByteArray) (N:Int) (w:World) (hr:(rtB F T&&keyOk k.data.toList&&smB N)=false):Calls Tryz.prog 24 #[mgv ⟨0,F,T,I,L,k,N⟩] w fun e w'=>e= .returned (.tuple #[ifv ⟨0,F,T,I,L,k,N⟩,.bool (mgOk ⟨0,F,T,I,L,k,N⟩)])∧Below w.heap.size w w':=by
 have HP:=hide (show mgOk ⟨0,F,T,I,L,k,N⟩=false by simp only[Bool.and_eq_false_iff] at hr;rcases hr with(h|h)|h<;>simp[mgOk,h])
 have HO:=hide (fun w1=>wantOk F T k N false w1 hr)
 clear hr
 go_enter Tryz.func24,Tryz.ntmps24
 go_upto_region 11 with fail
 refine wp_at (fun V hV=>?_)
 have hblk:V.heap[w.heap.size]?=some (.cells #[.int .i64 0,.int .i64 F,.int .i64 T,.int .i64 I,.int .i64 L,.string k,.int .i64 N] 37 (0,0)):=by rw [hV,Below.heap_alloc _ _ _ (by simp)];exact heap_alloc_new w _
 have HBV:=hide (show Below w.heap.size w V by rw [hV];exact((Below.refl _ _).alloc (Nat.le_refl _) _).alloc (by simp) _)
 have hgV:=blk_lt hblk
 obtain⟨p0,p1,p2,p3,p4,p5,p6⟩:=cells7 hblk
 clear hV hblk
 have cO:∀d os,Calls Tryz.prog 117 #[.agg #[.int .i64 F,.int .i64 T,.string k,.int .i64 N]] (Sort.grow (redrawn V d) os) fun e w''=>e= .returned (.bool false)∧∃p:Regrown,w''=Sort.grow (redrawn V p.d) p.os:=fun d os=>Calls.regrown_of (unhide HO _)
 have y0:=cell_regrown p0
 have y1:=cell_regrown p1
 have y2:=cell_regrown p2
 have y3:=cell_regrown p3
 have y4:=cell_regrown p4
 have y5:=cell_regrown p5
 have y6:=cell_regrown p6
 clear HO p0 p1 p2 p3 p4 p5 p6
 have f1:=mt_want
 refine wp_region_quiet_below (by kernel_rfl) (by kernel_rfl) ?_
 repeat (first|go_big_quiet_step (exact cO _ _)|quiet_step (exact cO _ _))
 refine wpQuiet_nil ?_
 intro _ hw'
 obtain⟨⟨dq,osq⟩,hw''⟩:=hw'
 subst hw''
 have HBL5:=hide ((unhide HBV).trans ((below_regrown _ dq osq).mono (unhide HBV).size))
 clear cO y0 y1 y2 y3 y4 y5 y6
 go_wp2_with fail
 exact bodyPost_ret (v:= .tuple #[ifv ⟨0,F,T,I,L,k,N⟩,.bool false]) (by simp[results,Tryz.results24,go_sem,ifv]) rfl ⟨by rw [unhide HP],unhide HBL5⟩
theorem messageOf_want_id (F:Int) (T:Int) (I:Int) (L:Int) (k:ByteArray) (N:Int) (w:World) (hr:(rtB F T&&keyOk k.data.toList&&smB N)=true) (hI:¬0=I):Calls Tryz.prog 24 #[mgv ⟨0,F,T,I,L,k,N⟩] w fun e w'=>e= .returned (.tuple #[ifv ⟨0,F,T,I,L,k,N⟩,.bool (mgOk ⟨0,F,T,I,L,k,N⟩)])∧Below w.heap.size w w':=by
 have HP:=hide (show mgOk ⟨0,F,T,I,L,k,N⟩=false by simp only[Bool.and_eq_true] at hr;obtain⟨⟨h1,h2⟩,h3⟩:=hr;simp[mgOk,h1,h2,h3,Ne.symm hI])
 have HO:=hide (fun w1=>wantOk F T k N true w1 hr)
 have HM:=hide (fun w1=>msgOf_want F T k N w1)
 clear hr
 go_enter Tryz.func24,Tryz.ntmps24
 go_upto_region 11 with fail
 refine wp_at (fun V hV=>?_)
 have hblk:V.heap[w.heap.size]?=some (.cells #[.int .i64 0,.int .i64 F,.int .i64 T,.int .i64 I,.int .i64 L,.string k,.int .i64 N] 37 (0,0)):=by rw [hV,Below.heap_alloc _ _ _ (by simp)];exact heap_alloc_new w _
 have HBV:=hide (show Below w.heap.size w V by rw [hV];exact((Below.refl _ _).alloc (Nat.le_refl _) _).alloc (by simp) _)
 have hgV:=blk_lt hblk
 obtain⟨p0,p1,p2,p3,p4,p5,p6⟩:=cells7 hblk
 clear hV hblk
 have cO:∀d os,Calls Tryz.prog 117 #[.agg #[.int .i64 F,.int .i64 T,.string k,.int .i64 N]] (Sort.grow (redrawn V d) os) fun e w''=>e= .returned (.bool true)∧∃p:Regrown,w''=Sort.grow (redrawn V p.d) p.os:=fun d os=>Calls.regrown_of (unhide HO _)
 have cM:∀d os,Calls Tryz.prog 42 #[.iface 85 (.agg #[.int .i64 F,.int .i64 T,.string k,.int .i64 N])] (Sort.grow (redrawn V d) os) fun e w''=>e= .returned (mgv ⟨0,F,T,0,0,k,N⟩)∧∃p:Regrown,w''=Sort.grow (redrawn V p.d) p.os:=fun d os=>Calls.regrown_of (unhide HM _)
 have y0:=cell_regrown p0
 have y1:=cell_regrown p1
 have y2:=cell_regrown p2
 have y3:=cell_regrown p3
 have y4:=cell_regrown p4
 have y5:=cell_regrown p5
 have y6:=cell_regrown p6
 clear HO HM p0 p1 p2 p3 p4 p5 p6
 have f1:=mt_want
 refine wp_region_quiet_below (by kernel_rfl) (by kernel_rfl) ?_
 repeat (first|go_big_quiet_step (first|exact cO _ _|exact cM _ _)|quiet_step (first|exact cO _ _|exact cM _ _))
 refine wpQuiet_nil ?_
 intro _ hw'
 obtain⟨⟨dq,osq⟩,hw''⟩:=hw'
 subst hw''
 have HBL5:=hide ((unhide HBV).trans ((below_regrown _ dq osq).mono (unhide HBV).size))
 clear cO cM y0 y1 y2 y3 y4 y5 y6
 go_wp2_with fail
 exact bodyPost_ret (v:= .tuple #[ifv ⟨0,F,T,I,L,k,N⟩,.bool false]) (by simp[results,Tryz.results24,go_sem,ifv]) rfl ⟨by rw [unhide HP],unhide HBL5⟩
theorem messageOf_want_low (F:Int) (T:Int) (L:Int) (k:ByteArray) (N:Int) (w:World) (hr:(rtB F T&&keyOk k.data.toList&&smB N)=true) (hL:¬0=L):Calls Tryz.prog 24 #[mgv ⟨0,F,T,0,L,k,N⟩] w fun e w'=>e= .returned (.tuple #[ifv ⟨0,F,T,0,L,k,N⟩,.bool (mgOk ⟨0,F,T,0,L,k,N⟩)])∧Below w.heap.size w w':=by
 have HP:=hide (show mgOk ⟨0,F,T,0,L,k,N⟩=false by simp only[Bool.and_eq_true] at hr;obtain⟨⟨h1,h2⟩,h3⟩:=hr;simp[mgOk,h1,h2,h3,Ne.symm hL])
 have HO:=hide (fun w1=>wantOk F T k N true w1 hr)
 have HM:=hide (fun w1=>msgOf_want F T k N w1)
 clear hr
 go_enter Tryz.func24,Tryz.ntmps24
 go_upto_region 11 with fail
 refine wp_at (fun V hV=>?_)
 have hblk:V.heap[w.heap.size]?=some (.cells #[.int .i64 0,.int .i64 F,.int .i64 T,.int .i64 0,.int .i64 L,.string k,.int .i64 N] 37 (0,0)):=by rw [hV,Below.heap_alloc _ _ _ (by simp)];exact heap_alloc_new w _
 have HBV:=hide (show Below w.heap.size w V by rw [hV];exact((Below.refl _ _).alloc (Nat.le_refl _) _).alloc (by simp) _)
 have hgV:=blk_lt hblk
 obtain⟨p0,p1,p2,p3,p4,p5,p6⟩:=cells7 hblk
 clear hV hblk
 have cO:∀d os,Calls Tryz.prog 117 #[.agg #[.int .i64 F,.int .i64 T,.string k,.int .i64 N]] (Sort.grow (redrawn V d) os) fun e w''=>e= .returned (.bool true)∧∃p:Regrown,w''=Sort.grow (redrawn V p.d) p.os:=fun d os=>Calls.regrown_of (unhide HO _)
 have cM:∀d os,Calls Tryz.prog 42 #[.iface 85 (.agg #[.int .i64 F,.int .i64 T,.string k,.int .i64 N])] (Sort.grow (redrawn V d) os) fun e w''=>e= .returned (mgv ⟨0,F,T,0,0,k,N⟩)∧∃p:Regrown,w''=Sort.grow (redrawn V p.d) p.os:=fun d os=>Calls.regrown_of (unhide HM _)
 have y0:=cell_regrown p0
 have y1:=cell_regrown p1
 have y2:=cell_regrown p2
 have y3:=cell_regrown p3
 have y4:=cell_regrown p4
 have y5:=cell_regrown p5
 have y6:=cell_regrown p6
 clear HO HM p0 p1 p2 p3 p4 p5 p6
 have f1:=mt_want
 refine wp_region_quiet_below (by kernel_rfl) (by kernel_rfl) ?_
 repeat (first|go_big_quiet_step (first|exact cO _ _|exact cM _ _)|quiet_step (first|exact cO _ _|exact cM _ _))
 refine wpQuiet_nil ?_
 intro _ hw'
 obtain⟨⟨dq,osq⟩,hw''⟩:=hw'
 subst hw''
 have HBL5:=hide ((unhide HBV).trans ((below_regrown _ dq osq).mono (unhide HBV).size))
 clear cO cM y0 y1 y2 y3 y4 y5 y6
 go_wp2_with fail
 exact bodyPost_ret (v:= .tuple #[ifv ⟨0,F,T,0,L,k,N⟩,.bool false]) (by simp[results,Tryz.results24,go_sem,ifv]) rfl ⟨by rw [unhide HP],unhide HBL5⟩
theorem messageOf_want_yes (F:Int) (T:Int) (k:ByteArray) (N:Int) (w:World) (hr:(rtB F T&&keyOk k.data.toList&&smB N)=true):Calls Tryz.prog 24 #[mgv ⟨0,F,T,0,0,k,N⟩] w fun e w'=>e= .returned (.tuple #[ifv ⟨0,F,T,0,0,k,N⟩,.bool (mgOk ⟨0,F,T,0,0,k,N⟩)])∧Below w.heap.size w w':=by
 have HP:=hide (show mgOk ⟨0,F,T,0,0,k,N⟩=true by simp only[Bool.and_eq_true] at hr;obtain⟨⟨h1,h2⟩,h3⟩:=hr;simp[mgOk,h1,h2,h3])
 have HO:=hide (fun w1=>wantOk F T k N true w1 hr)
 have HM:=hide (fun w1=>msgOf_want F T k N w1)
 clear hr
 go_enter Tryz.func24,Tryz.ntmps24
 go_upto_region 11 with fail
 refine wp_at (fun V hV=>?_)
 have hblk:V.heap[w.heap.size]?=some (.cells #[.int .i64 0,.int .i64 F,.int .i64 T,.int .i64 0,.int .i64 0,.string k,.int .i64 N] 37 (0,0)):=by rw [hV,Below.heap_alloc _ _ _ (by simp)];exact heap_alloc_new w _
 have HBV:=hide (show Below w.heap.size w V by rw [hV];exact((Below.refl _ _).alloc (Nat.le_refl _) _).alloc (by simp) _)
 have hgV:=blk_lt hblk
 obtain⟨p0,p1,p2,p3,p4,p5,p6⟩:=cells7 hblk
 clear hV hblk
 have cO:∀d os,Calls Tryz.prog 117 #[.agg #[.int .i64 F,.int .i64 T,.string k,.int .i64 N]] (Sort.grow (redrawn V d) os) fun e w''=>e= .returned (.bool true)∧∃p:Regrown,w''=Sort.grow (redrawn V p.d) p.os:=fun d os=>Calls.regrown_of (unhide HO _)
 have cM:∀d os,Calls Tryz.prog 42 #[.iface 85 (.agg #[.int .i64 F,.int .i64 T,.string k,.int .i64 N])] (Sort.grow (redrawn V d) os) fun e w''=>e= .returned (mgv ⟨0,F,T,0,0,k,N⟩)∧∃p:Regrown,w''=Sort.grow (redrawn V p.d) p.os:=fun d os=>Calls.regrown_of (unhide HM _)
 have y0:=cell_regrown p0
 have y1:=cell_regrown p1
 have y2:=cell_regrown p2
 have y3:=cell_regrown p3
 have y4:=cell_regrown p4
 have y5:=cell_regrown p5
 have y6:=cell_regrown p6
 clear HO HM p0 p1 p2 p3 p4 p5 p6
 have f1:=mt_want
 refine wp_region_quiet_below (by kernel_rfl) (by kernel_rfl) ?_
 repeat (first|go_big_quiet_step (first|exact cO _ _|exact cM _ _)|quiet_step (first|exact cO _ _|exact cM _ _))
 refine wpQuiet_nil ?_
 intro _ hw'
 obtain⟨⟨dq,osq⟩,hw''⟩:=hw'
 subst hw''
 have HBL5:=hide ((unhide HBV).trans ((below_regrown _ dq osq).mono (unhide HBV).size))
 clear cO cM y0 y1 y2 y3 y4 y5 y6
 go_wp2_with fail
 exact bodyPost_ret (v:= .tuple #[ifv ⟨0,F,T,0,0,k,N⟩,.bool true]) (by simp[results,Tryz.results24,go_sem,ifv]) rfl ⟨by rw [unhide HP],unhide HBL5⟩
theorem messageOf_pay_no (F:Int) (T:Int) (I:Int) (L:Int) (k:ByteArray) (N:Int) (w:World) (hr:(rtB F T&&smB I&&decide (1≤L)&&decide (L≤I)&&keyOk k.data.toList&&smB N)=false):Calls Tryz.prog 24 #[mgv ⟨1,F,T,I,L,k,N⟩] w fun e w'=>e= .returned (.tuple #[ifv ⟨1,F,T,I,L,k,N⟩,.bool (mgOk ⟨1,F,T,I,L,k,N⟩)])∧Below w.heap.size w w':=by
 have HP:=hide (show mgOk ⟨1,F,T,I,L,k,N⟩=false by simp only[Bool.and_eq_false_iff,decide_eq_false_iff_not] at hr;rcases hr with((((h|h)|h)|h)|h)|h<;>simp[mgOk,h]<;>omega)
 have HO:=hide (fun w1=>payOk F T I L k N false w1 hr)
 clear hr
 go_enter Tryz.func24,Tryz.ntmps24
 go_upto_region 11 with fail
 refine wp_at (fun V hV=>?_)
 have hblk:V.heap[w.heap.size]?=some (.cells #[.int .i64 1,.int .i64 F,.int .i64 T,.int .i64 I,.int .i64 L,.string k,.int .i64 N] 37 (0,0)):=by rw [hV,Below.heap_alloc _ _ _ (by simp)];exact heap_alloc_new w _
 have HBV:=hide (show Below w.heap.size w V by rw [hV];exact((Below.refl _ _).alloc (Nat.le_refl _) _).alloc (by simp) _)
 have hgV:=blk_lt hblk
 obtain⟨p0,p1,p2,p3,p4,p5,p6⟩:=cells7 hblk
 clear hV hblk
 have cO:∀d os,Calls Tryz.prog 118 #[.agg #[.int .i64 F,.int .i64 T,.int .i64 I,.int .i64 L,.string k,.int .i64 N]] (Sort.grow (redrawn V d) os) fun e w''=>e= .returned (.bool false)∧∃p:Regrown,w''=Sort.grow (redrawn V p.d) p.os:=fun d os=>Calls.regrown_of (unhide HO _)
 have y0:=cell_regrown p0
 have y1:=cell_regrown p1
 have y2:=cell_regrown p2
 have y3:=cell_regrown p3
 have y4:=cell_regrown p4
 have y5:=cell_regrown p5
 have y6:=cell_regrown p6
 clear HO p0 p1 p2 p3 p4 p5 p6
 have f1:=mt_pay
 refine wp_region_quiet_below (by kernel_rfl) (by kernel_rfl) ?_
 repeat (first|go_big_quiet_step (exact cO _ _)|quiet_step (exact cO _ _))
 refine wpQuiet_nil ?_
 intro _ hw'
 obtain⟨⟨dq,osq⟩,hw''⟩:=hw'
 subst hw''
 have HBL5:=hide ((unhide HBV).trans ((below_regrown _ dq osq).mono (unhide HBV).size))
 clear cO y0 y1 y2 y3 y4 y5 y6
 go_wp2_with fail
 exact bodyPost_ret (v:= .tuple #[ifv ⟨1,F,T,I,L,k,N⟩,.bool false]) (by simp[results,Tryz.results24,go_sem,ifv]) rfl ⟨by rw [unhide HP],unhide HBL5⟩
theorem messageOf_pay_yes (F:Int) (T:Int) (I:Int) (L:Int) (k:ByteArray) (N:Int) (w:World) (hr:(rtB F T&&smB I&&decide (1≤L)&&decide (L≤I)&&keyOk k.data.toList&&smB N)=true):Calls Tryz.prog 24 #[mgv ⟨1,F,T,I,L,k,N⟩] w fun e w'=>e= .returned (.tuple #[ifv ⟨1,F,T,I,L,k,N⟩,.bool (mgOk ⟨1,F,T,I,L,k,N⟩)])∧Below w.heap.size w w':=by
 have HP:=hide (show mgOk ⟨1,F,T,I,L,k,N⟩=true by simp only[Bool.and_eq_true,decide_eq_true_iff] at hr;obtain⟨⟨⟨⟨⟨h1,h2⟩,h3⟩,h4⟩,h5⟩,h6⟩:=hr;simp[mgOk,h1,h2,h3,h4,h5,h6])
 have HO:=hide (fun w1=>payOk F T I L k N true w1 hr)
 have HM:=hide (fun w1=>msgOf_pay F T I L k N w1)
 clear hr
 go_enter Tryz.func24,Tryz.ntmps24
 go_upto_region 11 with fail
 refine wp_at (fun V hV=>?_)
 have hblk:V.heap[w.heap.size]?=some (.cells #[.int .i64 1,.int .i64 F,.int .i64 T,.int .i64 I,.int .i64 L,.string k,.int .i64 N] 37 (0,0)):=by rw [hV,Below.heap_alloc _ _ _ (by simp)];exact heap_alloc_new w _
 have HBV:=hide (show Below w.heap.size w V by rw [hV];exact((Below.refl _ _).alloc (Nat.le_refl _) _).alloc (by simp) _)
 have hgV:=blk_lt hblk
 obtain⟨p0,p1,p2,p3,p4,p5,p6⟩:=cells7 hblk
 clear hV hblk
 have cO:∀d os,Calls Tryz.prog 118 #[.agg #[.int .i64 F,.int .i64 T,.int .i64 I,.int .i64 L,.string k,.int .i64 N]] (Sort.grow (redrawn V d) os) fun e w''=>e= .returned (.bool true)∧∃p:Regrown,w''=Sort.grow (redrawn V p.d) p.os:=fun d os=>Calls.regrown_of (unhide HO _)
 have cM:∀d os,Calls Tryz.prog 42 #[.iface 87 (.agg #[.int .i64 F,.int .i64 T,.int .i64 I,.int .i64 L,.string k,.int .i64 N])] (Sort.grow (redrawn V d) os) fun e w''=>e= .returned (mgv ⟨1,F,T,I,L,k,N⟩)∧∃p:Regrown,w''=Sort.grow (redrawn V p.d) p.os:=fun d os=>Calls.regrown_of (unhide HM _)
 have y0:=cell_regrown p0
 have y1:=cell_regrown p1
 have y2:=cell_regrown p2
 have y3:=cell_regrown p3
 have y4:=cell_regrown p4
 have y5:=cell_regrown p5
 have y6:=cell_regrown p6
 clear HO HM p0 p1 p2 p3 p4 p5 p6
 have f1:=mt_pay
 refine wp_region_quiet_below (by kernel_rfl) (by kernel_rfl) ?_
 repeat (first|go_big_quiet_step (first|exact cO _ _|exact cM _ _)|quiet_step (first|exact cO _ _|exact cM _ _))
 refine wpQuiet_nil ?_
 intro _ hw'
 obtain⟨⟨dq,osq⟩,hw''⟩:=hw'
 subst hw''
 have HBL5:=hide ((unhide HBV).trans ((below_regrown _ dq osq).mono (unhide HBV).size))
 clear cO cM y0 y1 y2 y3 y4 y5 y6
 go_wp2_with fail
 exact bodyPost_ret (v:= .tuple #[ifv ⟨1,F,T,I,L,k,N⟩,.bool true]) (by simp[results,Tryz.results24,go_sem,ifv]) rfl ⟨by rw [unhide HP],unhide HBL5⟩
theorem messageOf_ack_no (F:Int) (T:Int) (I:Int) (L:Int) (k:ByteArray) (N:Int) (w:World) (hr:(rtB F T&&smB I)=false):Calls Tryz.prog 24 #[mgv ⟨2,F,T,I,L,k,N⟩] w fun e w'=>e= .returned (.tuple #[ifv ⟨2,F,T,I,L,k,N⟩,.bool (mgOk ⟨2,F,T,I,L,k,N⟩)])∧Below w.heap.size w w':=by
 have HP:=hide (show mgOk ⟨2,F,T,I,L,k,N⟩=false by simp only[Bool.and_eq_false_iff] at hr;rcases hr with h|h<;>simp[mgOk,h])
 have HO:=hide (fun w1=>ackOk F T I false w1 hr)
 clear hr
 go_enter Tryz.func24,Tryz.ntmps24
 go_upto_region 11 with fail
 refine wp_at (fun V hV=>?_)
 have hblk:V.heap[w.heap.size]?=some (.cells #[.int .i64 2,.int .i64 F,.int .i64 T,.int .i64 I,.int .i64 L,.string k,.int .i64 N] 37 (0,0)):=by rw [hV,Below.heap_alloc _ _ _ (by simp)];exact heap_alloc_new w _
 have HBV:=hide (show Below w.heap.size w V by rw [hV];exact((Below.refl _ _).alloc (Nat.le_refl _) _).alloc (by simp) _)
 have hgV:=blk_lt hblk
 obtain⟨p0,p1,p2,p3,p4,p5,p6⟩:=cells7 hblk
 clear hV hblk
 have cO:∀d os,Calls Tryz.prog 119 #[.agg #[.int .i64 F,.int .i64 T,.int .i64 I]] (Sort.grow (redrawn V d) os) fun e w''=>e= .returned (.bool false)∧∃p:Regrown,w''=Sort.grow (redrawn V p.d) p.os:=fun d os=>Calls.regrown_of (unhide HO _)
 have y0:=cell_regrown p0
 have y1:=cell_regrown p1
 have y2:=cell_regrown p2
 have y3:=cell_regrown p3
 have y4:=cell_regrown p4
 have y5:=cell_regrown p5
 have y6:=cell_regrown p6
 clear HO p0 p1 p2 p3 p4 p5 p6
 have f1:=mt_ack
 refine wp_region_quiet_below (by kernel_rfl) (by kernel_rfl) ?_
 repeat (first|go_big_quiet_step (exact cO _ _)|quiet_step (exact cO _ _))
 refine wpQuiet_nil ?_
 intro _ hw'
 obtain⟨⟨dq,osq⟩,hw''⟩:=hw'
 subst hw''
 have HBL5:=hide ((unhide HBV).trans ((below_regrown _ dq osq).mono (unhide HBV).size))
 clear cO y0 y1 y2 y3 y4 y5 y6
 go_wp2_with fail
 exact bodyPost_ret (v:= .tuple #[ifv ⟨2,F,T,I,L,k,N⟩,.bool false]) (by simp[results,Tryz.results24,go_sem,ifv]) rfl ⟨by rw [unhide HP],unhide HBL5⟩
theorem messageOf_ack_low (F:Int) (T:Int) (I:Int) (L:Int) (k:ByteArray) (N:Int) (w:World) (hr:(rtB F T&&smB I)=true) (hL:¬0=L):Calls Tryz.prog 24 #[mgv ⟨2,F,T,I,L,k,N⟩] w fun e w'=>e= .returned (.tuple #[ifv ⟨2,F,T,I,L,k,N⟩,.bool (mgOk ⟨2,F,T,I,L,k,N⟩)])∧Below w.heap.size w w':=by
 have HP:=hide (show mgOk ⟨2,F,T,I,L,k,N⟩=false by simp only[Bool.and_eq_true] at hr;obtain⟨h1,h2⟩:=hr;simp[mgOk,h1,h2,Ne.symm hL])
 have HO:=hide (fun w1=>ackOk F T I true w1 hr)
 have HM:=hide (fun w1=>msgOf_ack F T I w1)
 clear hr
 go_enter Tryz.func24,Tryz.ntmps24
 go_upto_region 11 with fail
 refine wp_at (fun V hV=>?_)
 have hblk:V.heap[w.heap.size]?=some (.cells #[.int .i64 2,.int .i64 F,.int .i64 T,.int .i64 I,.int .i64 L,.string k,.int .i64 N] 37 (0,0)):=by rw [hV,Below.heap_alloc _ _ _ (by simp)];exact heap_alloc_new w _
 have HBV:=hide (show Below w.heap.size w V by rw [hV];exact((Below.refl _ _).alloc (Nat.le_refl _) _).alloc (by simp) _)
 have hgV:=blk_lt hblk
 obtain⟨p0,p1,p2,p3,p4,p5,p6⟩:=cells7 hblk
 clear hV hblk
 have cO:∀d os,Calls Tryz.prog 119 #[.agg #[.int .i64 F,.int .i64 T,.int .i64 I]] (Sort.grow (redrawn V d) os) fun e w''=>e= .returned (.bool true)∧∃p:Regrown,w''=Sort.grow (redrawn V p.d) p.os:=fun d os=>Calls.regrown_of (unhide HO _)
 have cM:∀d os,Calls Tryz.prog 42 #[.iface 89 (.agg #[.int .i64 F,.int .i64 T,.int .i64 I])] (Sort.grow (redrawn V d) os) fun e w''=>e= .returned (mgv ⟨2,F,T,I,0,ByteArray.empty,0⟩)∧∃p:Regrown,w''=Sort.grow (redrawn V p.d) p.os:=fun d os=>Calls.regrown_of (unhide HM _)
 have y0:=cell_regrown p0
 have y1:=cell_regrown p1
 have y2:=cell_regrown p2
 have y3:=cell_regrown p3
 have y4:=cell_regrown p4
 have y5:=cell_regrown p5
 have y6:=cell_regrown p6
 clear HO HM p0 p1 p2 p3 p4 p5 p6
 have f1:=mt_ack
 refine wp_region_quiet_below (by kernel_rfl) (by kernel_rfl) ?_
 repeat (first|go_big_quiet_step (first|exact cO _ _|exact cM _ _)|quiet_step (first|exact cO _ _|exact cM _ _))
 refine wpQuiet_nil ?_
 intro _ hw'
 obtain⟨⟨dq,osq⟩,hw''⟩:=hw'
 subst hw''
 have HBL5:=hide ((unhide HBV).trans ((below_regrown _ dq osq).mono (unhide HBV).size))
 clear cO cM y0 y1 y2 y3 y4 y5 y6
 go_wp2_with fail
 exact bodyPost_ret (v:= .tuple #[ifv ⟨2,F,T,I,L,k,N⟩,.bool false]) (by simp[results,Tryz.results24,go_sem,ifv]) rfl ⟨by rw [unhide HP],unhide HBL5⟩
theorem messageOf_ack_key (F:Int) (T:Int) (I:Int) (k:ByteArray) (N:Int) (w:World) (hr:(rtB F T&&smB I)=true) (hk:¬k.size=0):Calls Tryz.prog 24 #[mgv ⟨2,F,T,I,0,k,N⟩] w fun e w'=>e= .returned (.tuple #[ifv ⟨2,F,T,I,0,k,N⟩,.bool (mgOk ⟨2,F,T,I,0,k,N⟩)])∧Below w.heap.size w w':=by
 have HP:=hide (show mgOk ⟨2,F,T,I,0,k,N⟩=false by simp only[Bool.and_eq_true] at hr;obtain⟨h1,h2⟩:=hr;simp[mgOk,h1,h2,hk])
 have HO:=hide (fun w1=>ackOk F T I true w1 hr)
 have HM:=hide (fun w1=>msgOf_ack F T I w1)
 clear hr
 have hne:¬k.toList=[]:=by rw [ByteArray.toList_eq];intro h;have:=size_toList k;rw [h] at this;simp at this;omega
 have hne2:¬[]=k.toList:=fun h=>hne h.symm
 clear hk
 go_enter Tryz.func24,Tryz.ntmps24
 go_upto_region 11 with fail
 refine wp_at (fun V hV=>?_)
 have hblk:V.heap[w.heap.size]?=some (.cells #[.int .i64 2,.int .i64 F,.int .i64 T,.int .i64 I,.int .i64 0,.string k,.int .i64 N] 37 (0,0)):=by rw [hV,Below.heap_alloc _ _ _ (by simp)];exact heap_alloc_new w _
 have HBV:=hide (show Below w.heap.size w V by rw [hV];exact((Below.refl _ _).alloc (Nat.le_refl _) _).alloc (by simp) _)
 have hgV:=blk_lt hblk
 obtain⟨p0,p1,p2,p3,p4,p5,p6⟩:=cells7 hblk
 clear hV hblk
 have cO:∀d os,Calls Tryz.prog 119 #[.agg #[.int .i64 F,.int .i64 T,.int .i64 I]] (Sort.grow (redrawn V d) os) fun e w''=>e= .returned (.bool true)∧∃p:Regrown,w''=Sort.grow (redrawn V p.d) p.os:=fun d os=>Calls.regrown_of (unhide HO _)
 have cM:∀d os,Calls Tryz.prog 42 #[.iface 89 (.agg #[.int .i64 F,.int .i64 T,.int .i64 I])] (Sort.grow (redrawn V d) os) fun e w''=>e= .returned (mgv ⟨2,F,T,I,0,ByteArray.empty,0⟩)∧∃p:Regrown,w''=Sort.grow (redrawn V p.d) p.os:=fun d os=>Calls.regrown_of (unhide HM _)
 have y0:=cell_regrown p0
 have y1:=cell_regrown p1
 have y2:=cell_regrown p2
 have y3:=cell_regrown p3
 have y4:=cell_regrown p4
 have y5:=cell_regrown p5
 have y6:=cell_regrown p6
 clear HO HM p0 p1 p2 p3 p4 p5 p6
 have f1:=mt_ack
 refine wp_region_quiet_below (by kernel_rfl) (by kernel_rfl) ?_
 repeat (first|go_big_quiet_step (first|exact cO _ _|exact cM _ _)|quiet_step (first|exact cO _ _|exact cM _ _))
 refine wpQuiet_nil ?_
 intro _ hw'
 obtain⟨⟨dq,osq⟩,hw''⟩:=hw'
 subst hw''
 have HBL5:=hide ((unhide HBV).trans ((below_regrown _ dq osq).mono (unhide HBV).size))
 clear cO cM y0 y1 y2 y3 y4 y5 y6
 go_wp2_with fail
 exact bodyPost_ret (v:= .tuple #[ifv ⟨2,F,T,I,0,k,N⟩,.bool false]) (by simp[results,Tryz.results24,go_sem,ifv]) rfl ⟨by rw [unhide HP],unhide HBL5⟩
theorem messageOf_ack_n (F:Int) (T:Int) (I:Int) (N:Int) (w:World) (hr:(rtB F T&&smB I)=true) (hN:¬0=N):Calls Tryz.prog 24 #[mgv ⟨2,F,T,I,0,ByteArray.empty,N⟩] w fun e w'=>e= .returned (.tuple #[ifv ⟨2,F,T,I,0,ByteArray.empty,N⟩,.bool (mgOk ⟨2,F,T,I,0,ByteArray.empty,N⟩)])∧Below w.heap.size w w':=by
 have HP:=hide (show mgOk ⟨2,F,T,I,0,ByteArray.empty,N⟩=false by simp only[Bool.and_eq_true] at hr;obtain⟨h1,h2⟩:=hr;simp[mgOk,h1,h2,Ne.symm hN])
 have HO:=hide (fun w1=>ackOk F T I true w1 hr)
 have HM:=hide (fun w1=>msgOf_ack F T I w1)
 clear hr
 go_enter Tryz.func24,Tryz.ntmps24
 go_upto_region 11 with fail
 refine wp_at (fun V hV=>?_)
 have hblk:V.heap[w.heap.size]?=some (.cells #[.int .i64 2,.int .i64 F,.int .i64 T,.int .i64 I,.int .i64 0,.string ByteArray.empty,.int .i64 N] 37 (0,0)):=by rw [hV,Below.heap_alloc _ _ _ (by simp)];exact heap_alloc_new w _
 have HBV:=hide (show Below w.heap.size w V by rw [hV];exact((Below.refl _ _).alloc (Nat.le_refl _) _).alloc (by simp) _)
 have hgV:=blk_lt hblk
 obtain⟨p0,p1,p2,p3,p4,p5,p6⟩:=cells7 hblk
 clear hV hblk
 have cO:∀d os,Calls Tryz.prog 119 #[.agg #[.int .i64 F,.int .i64 T,.int .i64 I]] (Sort.grow (redrawn V d) os) fun e w''=>e= .returned (.bool true)∧∃p:Regrown,w''=Sort.grow (redrawn V p.d) p.os:=fun d os=>Calls.regrown_of (unhide HO _)
 have cM:∀d os,Calls Tryz.prog 42 #[.iface 89 (.agg #[.int .i64 F,.int .i64 T,.int .i64 I])] (Sort.grow (redrawn V d) os) fun e w''=>e= .returned (mgv ⟨2,F,T,I,0,ByteArray.empty,0⟩)∧∃p:Regrown,w''=Sort.grow (redrawn V p.d) p.os:=fun d os=>Calls.regrown_of (unhide HM _)
 have y0:=cell_regrown p0
 have y1:=cell_regrown p1
 have y2:=cell_regrown p2
 have y3:=cell_regrown p3
 have y4:=cell_regrown p4
 have y5:=cell_regrown p5
 have y6:=cell_regrown p6
 clear HO HM p0 p1 p2 p3 p4 p5 p6
 have f1:=mt_ack
 refine wp_region_quiet_below (by kernel_rfl) (by kernel_rfl) ?_
 repeat (first|go_big_quiet_step (first|exact cO _ _|exact cM _ _)|quiet_step (first|exact cO _ _|exact cM _ _))
 refine wpQuiet_nil ?_
 intro _ hw'
 obtain⟨⟨dq,osq⟩,hw''⟩:=hw'
 subst hw''
 have HBL5:=hide ((unhide HBV).trans ((below_regrown _ dq osq).mono (unhide HBV).size))
 clear cO cM y0 y1 y2 y3 y4 y5 y6
 go_wp2_with fail
 exact bodyPost_ret (v:= .tuple #[ifv ⟨2,F,T,I,0,ByteArray.empty,N⟩,.bool false]) (by simp[results,Tryz.results24,go_sem,ifv]) rfl ⟨by rw [unhide HP],unhide HBL5⟩
theorem messageOf_ack_yes (F:Int) (T:Int) (I:Int) (w:World) (hr:(rtB F T&&smB I)=true):Calls Tryz.prog 24 #[mgv ⟨2,F,T,I,0,ByteArray.empty,0⟩] w fun e w'=>e= .returned (.tuple #[ifv ⟨2,F,T,I,0,ByteArray.empty,0⟩,.bool (mgOk ⟨2,F,T,I,0,ByteArray.empty,0⟩)])∧Below w.heap.size w w':=by
 have HP:=hide (show mgOk ⟨2,F,T,I,0,ByteArray.empty,0⟩=true by simp only[Bool.and_eq_true] at hr;obtain⟨h1,h2⟩:=hr;simp[mgOk,h1,h2])
 have HO:=hide (fun w1=>ackOk F T I true w1 hr)
 have HM:=hide (fun w1=>msgOf_ack F T I w1)
 clear hr
 go_enter Tryz.func24,Tryz.ntmps24
 go_upto_region 11 with fail
 refine wp_at (fun V hV=>?_)
 have hblk:V.heap[w.heap.size]?=some (.cells #[.int .i64 2,.int .i64 F,.int .i64 T,.int .i64 I,.int .i64 0,.string ByteArray.empty,.int .i64 0] 37 (0,0)):=by rw [hV,Below.heap_alloc _ _ _ (by simp)];exact heap_alloc_new w _
 have HBV:=hide (show Below w.heap.size w V by rw [hV];exact((Below.refl _ _).alloc (Nat.le_refl _) _).alloc (by simp) _)
 have hgV:=blk_lt hblk
 obtain⟨p0,p1,p2,p3,p4,p5,p6⟩:=cells7 hblk
 clear hV hblk
 have cO:∀d os,Calls Tryz.prog 119 #[.agg #[.int .i64 F,.int .i64 T,.int .i64 I]] (Sort.grow (redrawn V d) os) fun e w''=>e= .returned (.bool true)∧∃p:Regrown,w''=Sort.grow (redrawn V p.d) p.os:=fun d os=>Calls.regrown_of (unhide HO _)
 have cM:∀d os,Calls Tryz.prog 42 #[.iface 89 (.agg #[.int .i64 F,.int .i64 T,.int .i64 I])] (Sort.grow (redrawn V d) os) fun e w''=>e= .returned (mgv ⟨2,F,T,I,0,ByteArray.empty,0⟩)∧∃p:Regrown,w''=Sort.grow (redrawn V p.d) p.os:=fun d os=>Calls.regrown_of (unhide HM _)
 have y0:=cell_regrown p0
 have y1:=cell_regrown p1
 have y2:=cell_regrown p2
 have y3:=cell_regrown p3
 have y4:=cell_regrown p4
 have y5:=cell_regrown p5
 have y6:=cell_regrown p6
 clear HO HM p0 p1 p2 p3 p4 p5 p6
 have f1:=mt_ack
 refine wp_region_quiet_below (by kernel_rfl) (by kernel_rfl) ?_
 repeat (first|go_big_quiet_step (first|exact cO _ _|exact cM _ _)|quiet_step (first|exact cO _ _|exact cM _ _))
 refine wpQuiet_nil ?_
 intro _ hw'
 obtain⟨⟨dq,osq⟩,hw''⟩:=hw'
 subst hw''
 have HBL5:=hide ((unhide HBV).trans ((below_regrown _ dq osq).mono (unhide HBV).size))
 clear cO cM y0 y1 y2 y3 y4 y5 y6
 go_wp2_with fail
 exact bodyPost_ret (v:= .tuple #[ifv ⟨2,F,T,I,0,ByteArray.empty,0⟩,.bool true]) (by simp[results,Tryz.results24,go_sem,ifv]) rfl ⟨by rw [unhide HP],unhide HBL5⟩
theorem messageOf_else (K F T I L:Int) (k:ByteArray) (N:Int) (w:World) (k0:¬K=0) (k1:¬K=1) (k2:¬K=2):Calls Tryz.prog 24 #[mgv ⟨K,F,T,I,L,k,N⟩] w fun e w'=>e= .returned (.tuple #[ifv ⟨K,F,T,I,L,k,N⟩,.bool (mgOk ⟨K,F,T,I,L,k,N⟩)])∧Below w.heap.size w w':=by
 have HP:=hide (show mgOk ⟨K,F,T,I,L,k,N⟩=false by simp[mgOk,k0,k1,k2])
 have HV:=hide (show ifv ⟨K,F,T,I,L,k,N⟩= .nilIface by simp[ifv,k0,k1,k2])
 go_enter Tryz.func24,Tryz.ntmps24
 go_wp2_with fail
 exact bodyPost_ret (v:= .tuple #[.nilIface,.bool false]) (by simp[results,Tryz.results24,go_sem]) rfl ⟨by rw [unhide HP,unhide HV],((Below.refl _ _).alloc (Nat.le_refl _) _).alloc (by simp) _⟩
theorem messageOf (m:Mg) (w:World):Calls Tryz.prog 24 #[mgv m] w fun e w'=>e= .returned (.tuple #[ifv m,.bool (mgOk m)])∧Below w.heap.size w w':=by
 obtain⟨K,F,T,I,L,k,N⟩:=m
 by_cases k0:K=0
 ·subst k0
  cases hr:(rtB F T&&keyOk k.data.toList&&smB N)
  ·exact messageOf_want_no F T I L k N w hr
  by_cases hI:0=I
  ·subst hI
   by_cases hL:0=L
   ·subst hL;exact messageOf_want_yes F T k N w hr
   ·exact messageOf_want_low F T L k N w hr hL
  ·exact messageOf_want_id F T I L k N w hr hI
 by_cases k1:K=1
 ·subst k1
  cases hr:(rtB F T&&smB I&&decide (1≤L)&&decide (L≤I)&&keyOk k.data.toList&&smB N)
  ·exact messageOf_pay_no F T I L k N w hr
  ·exact messageOf_pay_yes F T I L k N w hr
 by_cases k2:K=2
 ·subst k2
  cases hr:(rtB F T&&smB I)
  ·exact messageOf_ack_no F T I L k N w hr
  by_cases hL:0=L
  ·subst hL
   by_cases hk:k.size=0
   ·obtain rfl:=eq_empty k hk
    by_cases hN:0=N
    ·subst hN;exact messageOf_ack_yes F T I w hr
    ·exact messageOf_ack_n F T I N w hr hN
   ·exact messageOf_ack_key F T I k N w hr hk
  ·exact messageOf_ack_low F T I L k N w hr hL
 exact messageOf_else K F T I L k N w k0 k1 k2
theorem implMsgOk (m:Mg) (w:World):Calls Tryz.prog 10 #[mgv m] w fun e w'=>e= .returned (.bool (mgOk m))∧Below w.heap.size w w':=by
 have HM:=hide (fun w1=>messageOf m w1)
 generalize mgOk m=r at *
 generalize ifv m=v at *
 obtain⟨K,F,T,I,L,k,N⟩:=m
 go_enter Tryz.func10,Tryz.ntmps10
 go_wp2_with fail
 refine(unhide HM _).mono ?_
 rintro e w1 ⟨rfl,hb1⟩
 go_wp2
 go_ret
 exact⟨rfl,(below_one w _).trans (hb1.mono (by simp))⟩
end Go.Proofs.YtdlokncalhopoaaGreat
namespace Go.Proofs.YtdlokncalhopoaaGreat.Mth
open Go.Lib (decDigits itoa)
end Go.Proofs.YtdlokncalhopoaaGreat.Mth
namespace Go.Proofs.YtdlokncalhopoaaGreat
open Go.RowKit
open Go.Lib (decDigits itoa)
end Go.Proofs.YtdlokncalhopoaaGreat
namespace Go.Proofs.YtdlokncalhopoaaGreat
open Go.RowKit
open Go.Lib (decDigits)
end Go.Proofs.YtdlokncalhopoaaGreat
