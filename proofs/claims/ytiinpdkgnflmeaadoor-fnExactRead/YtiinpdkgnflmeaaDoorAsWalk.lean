/-
  errors.as, walked: an error that 'unread' wraps, once or twice, is found.
-/
import Derived.Test.YtiinpdkgnflmeaaDoorAsSet
namespace Go.Proofs.YtiinpdkgnflmeaaDoor
open Go.RowKit Go.Extern.Stop Go.Stop Go.Extern
namespace As
theorem noAs (v : Value) (xT : TypeId) (w : World) : (Instr.typeAssert (.iface 121 v) xT 150 true).run Tryd.prog w = .ok (.tuple #[.nilIface, .bool false]) w := run_typeAssert_lacksB Tryd.underlying150 (by kernel_rfl) (by kernel_rfl) v xT w
theorem hasUnwrap (v : Value) (xT : TypeId) (w : World) : (Instr.typeAssert (.iface 121 v) xT 153 true).run Tryd.prog w = .ok (.tuple #[.iface 121 v, .bool true]) w := run_typeAssert_hasB Tryd.underlying153 (by kernel_rfl) v xT w

/-- The two shapes of errors that the program makes. -/
def no (p : Int) : Value := .iface 123 (.agg #[.int .i64 p])
def un (e : Value) : Value := .iface 121 (.agg #[e])
end As

theorem World.lt_of_cell {w : World} {a : Addr} {v : Value} (h : w.cell? a = some v) : a.block < w.heap.size := by
  rcases Nat.lt_or_ge a.block w.heap.size with h' | h'
  · exact h'
  · simp [World.cell?, Array.getElem?_eq_none h'] at h
theorem unwrapUn (e : Value) (w : World) : Calls Tryd.prog 134 #[.agg #[e]] w fun r w' => r = .returned e ∧ w' = w.alloc (.cells #[e] 121) := by
  go_enter Tryd.func134, Tryd.ntmps134
  go_wp2
  go_ret
  exact ⟨rfl, rfl⟩

set_option maxRecDepth 100000 in
set_option maxHeartbeats 2000000 in
theorem as_one (p : Int) (tg : Value) (t a : Addr) (old : Value) (w : World) (ha : w.cell? a = some (.pointer (some t))) (ht : w.cell? t = some old) (hf : w.frozen? t = false) :
    Calls Tryd.prog 94 #[.iface 121 (.agg #[.iface 123 (.agg #[.int .i64 p])]), tg, .agg #[.pointer (some ⟨5, 125, none⟩), .pointer (some a), .int .u64 150], .iface 145 (.agg #[.pointer (some ⟨5, 123, none⟩)])] w
      fun e w' => e = .returned (.bool true) ∧ Below t.block w w' := by
  have hTO := @run_callFunc_extern Tryd.prog 99 _ ReflectliteType.typeOf Tryd.func99 (by kernel_rfl) (by kernel_rfl) (by kernel_rfl) (by kernel_rfl)
  have hAT := @run_callFunc_extern Tryd.prog 140 _ (ReflectliteType.relation "AssignableTo" ReflectliteType.assignableTo) Tryd.func140 (by kernel_rfl) (by kernel_rfl) (by kernel_rfl) (by kernel_rfl)
  have hVO := @run_callFunc_extern Tryd.prog 91 _ (fun args => ReflectliteValue.unpack (args.getD 0 (.tuple #[]))) Tryd.func91 (by kernel_rfl) (by kernel_rfl) (by kernel_rfl) (by kernel_rfl)
  have hEL := @run_callFunc_extern Tryd.prog 100 _ (ReflectliteValue.method (ReflectliteValue.valueError "reflectlite.Value.Elem" 0) ReflectliteValue.elem) Tryd.func100 (by kernel_rfl) (by kernel_rfl) (by kernel_rfl) (by kernel_rfl)
  have hST := @run_callFunc_extern Tryd.prog 101 _ ReflectliteValue.set Tryd.func101 (by kernel_rfl) (by kernel_rfl) (by kernel_rfl) (by kernel_rfl)
  have f1 := As.typeOfNo
  have f2 := As.typeOfUnread
  have f3 := As.methodAssignableTo
  have f4 := As.assignNo
  have f5 := As.assignUnread
  have f6 := As.noAs
  have f7 := As.hasUnwrap
  have f8 := As.methodUnwrap
  have f9 := As.valueOfNo
  have hal : a.block < w.heap.size := World.lt_of_cell ha
  have htl : t.block < w.heap.size := World.lt_of_cell ht
  have el := As.elemV a t ((w.alloc (.cells #[.pointer (some ⟨5, 125, none⟩), .pointer (some a), .int .u64 150] 129)).alloc (.cells #[.iface 123 (.agg #[.int .i64 p])] 121))
    (by rw [World.cell?_alloc_lt _ _ a (by simp; omega), World.cell?_alloc_lt _ _ a hal]; exact ha)
  have st := As.setNo t ⟨w.heap.size + 1 + 1, 0, none⟩ p old (((w.alloc (.cells #[.pointer (some ⟨5, 125, none⟩), .pointer (some a), .int .u64 150] 129)).alloc (.cells #[.iface 123 (.agg #[.int .i64 p])] 121)).alloc (.cells #[.int .i64 p] 123))
    (by rw [World.cell?_alloc_at _ _ _ _ (by simp)]; rfl)
    (by rw [World.cell?_alloc_lt _ _ t (by simp; omega), World.cell?_alloc_lt _ _ t (by simp; omega), World.cell?_alloc_lt _ _ t htl]; exact ht)
    (by rw [World.frozen?_alloc_old _ _ t (by simp; omega), World.frozen?_alloc_old _ _ t (by simp; omega), World.frozen?_alloc_old _ _ t (Nat.ne_of_lt htl)]; exact hf)
  go_enter Tryd.func94, Tryd.ntmps94
  go_wp2
  refine wp_loop_rounds 2 ?_
  rw [rounds_succ]
  go_wp2
  rw [rounds_succ]
  go_wp2
  go_ret
  exact ⟨rfl, by exact ((((Below.refl _ _).alloc (by omega) _).alloc (by simp; omega) _).alloc (by simp; omega) _).setCell (Nat.le_refl _) _⟩

set_option maxRecDepth 100000 in
set_option maxHeartbeats 2000000 in
theorem as_two (p : Int) (tg : Value) (t a : Addr) (old : Value) (w : World) (ha : w.cell? a = some (.pointer (some t))) (ht : w.cell? t = some old) (hf : w.frozen? t = false) :
    Calls Tryd.prog 94 #[.iface 121 (.agg #[.iface 121 (.agg #[.iface 123 (.agg #[.int .i64 p])])]), tg, .agg #[.pointer (some ⟨5, 125, none⟩), .pointer (some a), .int .u64 150], .iface 145 (.agg #[.pointer (some ⟨5, 123, none⟩)])] w
      fun e w' => e = .returned (.bool true) ∧ Below t.block w w' := by
  have hTO := @run_callFunc_extern Tryd.prog 99 _ ReflectliteType.typeOf Tryd.func99 (by kernel_rfl) (by kernel_rfl) (by kernel_rfl) (by kernel_rfl)
  have hAT := @run_callFunc_extern Tryd.prog 140 _ (ReflectliteType.relation "AssignableTo" ReflectliteType.assignableTo) Tryd.func140 (by kernel_rfl) (by kernel_rfl) (by kernel_rfl) (by kernel_rfl)
  have hVO := @run_callFunc_extern Tryd.prog 91 _ (fun args => ReflectliteValue.unpack (args.getD 0 (.tuple #[]))) Tryd.func91 (by kernel_rfl) (by kernel_rfl) (by kernel_rfl) (by kernel_rfl)
  have hEL := @run_callFunc_extern Tryd.prog 100 _ (ReflectliteValue.method (ReflectliteValue.valueError "reflectlite.Value.Elem" 0) ReflectliteValue.elem) Tryd.func100 (by kernel_rfl) (by kernel_rfl) (by kernel_rfl) (by kernel_rfl)
  have hST := @run_callFunc_extern Tryd.prog 101 _ ReflectliteValue.set Tryd.func101 (by kernel_rfl) (by kernel_rfl) (by kernel_rfl) (by kernel_rfl)
  have f1 := As.typeOfNo
  have f2 := As.typeOfUnread
  have f3 := As.methodAssignableTo
  have f4 := As.assignNo
  have f5 := As.assignUnread
  have f6 := As.noAs
  have f7 := As.hasUnwrap
  have f8 := As.methodUnwrap
  have f9 := As.valueOfNo
  have hal : a.block < w.heap.size := World.lt_of_cell ha
  have htl : t.block < w.heap.size := World.lt_of_cell ht
  have el := As.elemV a t (((w.alloc (.cells #[.pointer (some ⟨5, 125, none⟩), .pointer (some a), .int .u64 150] 129)).alloc (.cells #[.iface 121 (.agg #[.iface 123 (.agg #[.int .i64 p])])] 121)).alloc (.cells #[.iface 123 (.agg #[.int .i64 p])] 121))
    (by rw [World.cell?_alloc_lt _ _ a (by simp; omega), World.cell?_alloc_lt _ _ a (by simp; omega), World.cell?_alloc_lt _ _ a hal]; exact ha)
  have st := As.setNo t ⟨w.heap.size + 1 + 1 + 1, 0, none⟩ p old ((((w.alloc (.cells #[.pointer (some ⟨5, 125, none⟩), .pointer (some a), .int .u64 150] 129)).alloc (.cells #[.iface 121 (.agg #[.iface 123 (.agg #[.int .i64 p])])] 121)).alloc (.cells #[.iface 123 (.agg #[.int .i64 p])] 121)).alloc (.cells #[.int .i64 p] 123))
    (by rw [World.cell?_alloc_at _ _ _ _ (by simp)]; rfl)
    (by rw [World.cell?_alloc_lt _ _ t (by simp; omega), World.cell?_alloc_lt _ _ t (by simp; omega), World.cell?_alloc_lt _ _ t (by simp; omega), World.cell?_alloc_lt _ _ t htl]; exact ht)
    (by rw [World.frozen?_alloc_old _ _ t (by simp; omega), World.frozen?_alloc_old _ _ t (by simp; omega), World.frozen?_alloc_old _ _ t (by simp; omega), World.frozen?_alloc_old _ _ t (Nat.ne_of_lt htl)]; exact hf)
  go_enter Tryd.func94, Tryd.ntmps94
  go_wp2
  refine wp_loop_rounds 3 ?_
  rw [rounds_succ]
  go_wp2
  rw [rounds_succ]
  go_wp2
  rw [rounds_succ]
  go_wp2
  go_ret
  exact ⟨rfl, by exact (((((Below.refl _ _).alloc (by omega) _).alloc (by simp; omega) _).alloc (by simp; omega) _).alloc (by simp; omega) _).setCell (Nat.le_refl _) _⟩
end Go.Proofs.YtiinpdkgnflmeaaDoor
