/-
  errors.as, walked: an error that 'unread' wraps, once or twice, is found.
-/
import Derived.Test.YtccpcmhideijpaaDoorAsSet
namespace Go.Proofs.YtccpcmhideijpaaDoor
open Go.RowKit Go.Extern.Stop Go.Stop Go.Extern
namespace As
theorem noAs (v : Value) (xT : TypeId) (w : World) : (Instr.typeAssert (.iface 70 v) xT 95 true).run Tryd.prog w = .ok (.tuple #[.nilIface, .bool false]) w := run_typeAssert_lacksB Tryd.underlying95 (by kernel_rfl) (by kernel_rfl) v xT w
theorem hasUnwrap (v : Value) (xT : TypeId) (w : World) : (Instr.typeAssert (.iface 70 v) xT 98 true).run Tryd.prog w = .ok (.tuple #[.iface 70 v, .bool true]) w := run_typeAssert_hasB Tryd.underlying98 (by kernel_rfl) v xT w

/-- The two shapes of errors that the program makes. -/
def no (p : Int) : Value := .iface 63 (.agg #[.int .i64 p])
def un (e : Value) : Value := .iface 70 (.agg #[e])
end As

theorem World.lt_of_cell {w : World} {a : Addr} {v : Value} (h : w.cell? a = some v) : a.block < w.heap.size := by
  rcases Nat.lt_or_ge a.block w.heap.size with h' | h'
  · exact h'
  · simp [World.cell?, Array.getElem?_eq_none h'] at h
theorem unwrapUn (e : Value) (w : World) : Calls Tryd.prog 100 #[.agg #[e]] w fun r w' => r = .returned e ∧ w' = w.alloc (.cells #[e] 70) := by
  go_enter Tryd.func100, Tryd.ntmps100
  go_wp2
  go_ret
  exact ⟨rfl, rfl⟩

set_option maxRecDepth 100000 in
set_option maxHeartbeats 2000000 in
theorem as_one (p : Int) (tg : Value) (t a : Addr) (old : Value) (w : World) (ha : w.cell? a = some (.pointer (some t))) (ht : w.cell? t = some old) (hf : w.frozen? t = false) :
    Calls Tryd.prog 51 #[.iface 70 (.agg #[.iface 63 (.agg #[.int .i64 p])]), tg, .agg #[.pointer (some ⟨7, 65, none⟩), .pointer (some a), .int .u64 150], .iface 90 (.agg #[.pointer (some ⟨7, 63, none⟩)])] w
      fun e w' => e = .returned (.bool true) ∧ Below t.block w w' := by
  have hTO := @run_callFunc_extern Tryd.prog 59 _ ReflectliteType.typeOf Tryd.func59 (by kernel_rfl) (by kernel_rfl) (by kernel_rfl) (by kernel_rfl)
  have hAT := @run_callFunc_extern Tryd.prog 105 _ (ReflectliteType.relation "AssignableTo" ReflectliteType.assignableTo) Tryd.func105 (by kernel_rfl) (by kernel_rfl) (by kernel_rfl) (by kernel_rfl)
  have hVO := @run_callFunc_extern Tryd.prog 48 _ (fun args => ReflectliteValue.unpack (args.getD 0 (.tuple #[]))) Tryd.func48 (by kernel_rfl) (by kernel_rfl) (by kernel_rfl) (by kernel_rfl)
  have hEL := @run_callFunc_extern Tryd.prog 60 _ (ReflectliteValue.method (ReflectliteValue.valueError "reflectlite.Value.Elem" 0) ReflectliteValue.elem) Tryd.func60 (by kernel_rfl) (by kernel_rfl) (by kernel_rfl) (by kernel_rfl)
  have hST := @run_callFunc_extern Tryd.prog 61 _ ReflectliteValue.set Tryd.func61 (by kernel_rfl) (by kernel_rfl) (by kernel_rfl) (by kernel_rfl)
  have f1 := As.typeOfNo
  have f2 := As.typeOfUnread
  have f3 := As.methodAssignableTo
  have f4 := As.assignNo
  have f5 := As.assignUnread
  have f6 := As.noAs
  have f7 := As.hasUnwrap
  have f8 := As.methodUnwrap
  have f9 := As.valueOfNo
  have hal : a.block < w.heap.size := World.lt_of_cell ha
  have htl : t.block < w.heap.size := World.lt_of_cell ht
  have el := As.elemV a t ((w.alloc (.cells #[.pointer (some ⟨7, 65, none⟩), .pointer (some a), .int .u64 150] 74)).alloc (.cells #[.iface 63 (.agg #[.int .i64 p])] 70))
    (by rw [World.cell?_alloc_lt _ _ a (by simp; omega), World.cell?_alloc_lt _ _ a hal]; exact ha)
  have st := As.setNo t ⟨w.heap.size + 1 + 1, 0, none⟩ p old (((w.alloc (.cells #[.pointer (some ⟨7, 65, none⟩), .pointer (some a), .int .u64 150] 74)).alloc (.cells #[.iface 63 (.agg #[.int .i64 p])] 70)).alloc (.cells #[.int .i64 p] 63))
    (by rw [World.cell?_alloc_at _ _ _ _ (by simp)]; rfl)
    (by rw [World.cell?_alloc_lt _ _ t (by simp; omega), World.cell?_alloc_lt _ _ t (by simp; omega), World.cell?_alloc_lt _ _ t htl]; exact ht)
    (by rw [World.frozen?_alloc_old _ _ t (by simp; omega), World.frozen?_alloc_old _ _ t (by simp; omega), World.frozen?_alloc_old _ _ t (Nat.ne_of_lt htl)]; exact hf)
  go_enter Tryd.func51, Tryd.ntmps51
  go_wp2
  refine wp_loop_rounds 2 ?_
  rw [rounds_succ]
  go_wp2
  rw [rounds_succ]
  go_wp2
  go_ret
  exact ⟨rfl, by exact ((((Below.refl _ _).alloc (by omega) _).alloc (by simp; omega) _).alloc (by simp; omega) _).setCell (Nat.le_refl _) _⟩

set_option maxRecDepth 100000 in
set_option maxHeartbeats 2000000 in
theorem as_two (p : Int) (tg : Value) (t a : Addr) (old : Value) (w : World) (ha : w.cell? a = some (.pointer (some t))) (ht : w.cell? t = some old) (hf : w.frozen? t = false) :
    Calls Tryd.prog 51 #[.iface 70 (.agg #[.iface 70 (.agg #[.iface 63 (.agg #[.int .i64 p])])]), tg, .agg #[.pointer (some ⟨7, 65, none⟩), .pointer (some a), .int .u64 150], .iface 90 (.agg #[.pointer (some ⟨7, 63, none⟩)])] w
      fun e w' => e = .returned (.bool true) ∧ Below t.block w w' := by
  have hTO := @run_callFunc_extern Tryd.prog 59 _ ReflectliteType.typeOf Tryd.func59 (by kernel_rfl) (by kernel_rfl) (by kernel_rfl) (by kernel_rfl)
  have hAT := @run_callFunc_extern Tryd.prog 105 _ (ReflectliteType.relation "AssignableTo" ReflectliteType.assignableTo) Tryd.func105 (by kernel_rfl) (by kernel_rfl) (by kernel_rfl) (by kernel_rfl)
  have hVO := @run_callFunc_extern Tryd.prog 48 _ (fun args => ReflectliteValue.unpack (args.getD 0 (.tuple #[]))) Tryd.func48 (by kernel_rfl) (by kernel_rfl) (by kernel_rfl) (by kernel_rfl)
  have hEL := @run_callFunc_extern Tryd.prog 60 _ (ReflectliteValue.method (ReflectliteValue.valueError "reflectlite.Value.Elem" 0) ReflectliteValue.elem) Tryd.func60 (by kernel_rfl) (by kernel_rfl) (by kernel_rfl) (by kernel_rfl)
  have hST := @run_callFunc_extern Tryd.prog 61 _ ReflectliteValue.set Tryd.func61 (by kernel_rfl) (by kernel_rfl) (by kernel_rfl) (by kernel_rfl)
  have f1 := As.typeOfNo
  have f2 := As.typeOfUnread
  have f3 := As.methodAssignableTo
  have f4 := As.assignNo
  have f5 := As.assignUnread
  have f6 := As.noAs
  have f7 := As.hasUnwrap
  have f8 := As.methodUnwrap
  have f9 := As.valueOfNo
  have hal : a.block < w.heap.size := World.lt_of_cell ha
  have htl : t.block < w.heap.size := World.lt_of_cell ht
  have el := As.elemV a t (((w.alloc (.cells #[.pointer (some ⟨7, 65, none⟩), .pointer (some a), .int .u64 150] 74)).alloc (.cells #[.iface 70 (.agg #[.iface 63 (.agg #[.int .i64 p])])] 70)).alloc (.cells #[.iface 63 (.agg #[.int .i64 p])] 70))
    (by rw [World.cell?_alloc_lt _ _ a (by simp; omega), World.cell?_alloc_lt _ _ a (by simp; omega), World.cell?_alloc_lt _ _ a hal]; exact ha)
  have st := As.setNo t ⟨w.heap.size + 1 + 1 + 1, 0, none⟩ p old ((((w.alloc (.cells #[.pointer (some ⟨7, 65, none⟩), .pointer (some a), .int .u64 150] 74)).alloc (.cells #[.iface 70 (.agg #[.iface 63 (.agg #[.int .i64 p])])] 70)).alloc (.cells #[.iface 63 (.agg #[.int .i64 p])] 70)).alloc (.cells #[.int .i64 p] 63))
    (by rw [World.cell?_alloc_at _ _ _ _ (by simp)]; rfl)
    (by rw [World.cell?_alloc_lt _ _ t (by simp; omega), World.cell?_alloc_lt _ _ t (by simp; omega), World.cell?_alloc_lt _ _ t (by simp; omega), World.cell?_alloc_lt _ _ t htl]; exact ht)
    (by rw [World.frozen?_alloc_old _ _ t (by simp; omega), World.frozen?_alloc_old _ _ t (by simp; omega), World.frozen?_alloc_old _ _ t (by simp; omega), World.frozen?_alloc_old _ _ t (Nat.ne_of_lt htl)]; exact hf)
  go_enter Tryd.func51, Tryd.ntmps51
  go_wp2
  refine wp_loop_rounds 3 ?_
  rw [rounds_succ]
  go_wp2
  rw [rounds_succ]
  go_wp2
  rw [rounds_succ]
  go_wp2
  go_ret
  exact ⟨rfl, by exact (((((Below.refl _ _).alloc (by omega) _).alloc (by simp; omega) _).alloc (by simp; omega) _).alloc (by simp; omega) _).setCell (Nat.le_refl _) _⟩
end Go.Proofs.YtccpcmhideijpaaDoor
