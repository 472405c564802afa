/-
  The program's msgOf: the message that one of its kinds is.
-/
import Derived.Test.YtiinpdkgnflmeaaDoorMgI
namespace Go.Proofs.YtiinpdkgnflmeaaDoor
open Go.RowKit
open Mth

theorem as_want_want (v : Value) (w : World) : (Instr.typeAssert (.iface 112 v) 97 112 true).run Tryd.prog w = .ok (.tuple #[v, .bool true]) w := by kernel_rfl
theorem as_want_pay (v : Value) (w : World) : (Instr.typeAssert (.iface 112 v) 97 114 true).run Tryd.prog w = .ok (.tuple #[.agg #[.int .i64 0, .int .i64 0, .int .i64 0, .int .i64 0, .string ⟨#[]⟩, .int .i64 0], .bool false]) w := by kernel_rfl
theorem as_want_ack (v : Value) (w : World) : (Instr.typeAssert (.iface 112 v) 97 116 true).run Tryd.prog w = .ok (.tuple #[.agg #[.int .i64 0, .int .i64 0, .int .i64 0], .bool false]) w := by kernel_rfl
theorem as_pay_want (v : Value) (w : World) : (Instr.typeAssert (.iface 114 v) 97 112 true).run Tryd.prog w = .ok (.tuple #[.agg #[.int .i64 0, .int .i64 0, .string ⟨#[]⟩, .int .i64 0], .bool false]) w := by kernel_rfl
theorem as_pay_pay (v : Value) (w : World) : (Instr.typeAssert (.iface 114 v) 97 114 true).run Tryd.prog w = .ok (.tuple #[v, .bool true]) w := by kernel_rfl
theorem as_pay_ack (v : Value) (w : World) : (Instr.typeAssert (.iface 114 v) 97 116 true).run Tryd.prog w = .ok (.tuple #[.agg #[.int .i64 0, .int .i64 0, .int .i64 0], .bool false]) w := by kernel_rfl
theorem as_ack_want (v : Value) (w : World) : (Instr.typeAssert (.iface 116 v) 97 112 true).run Tryd.prog w = .ok (.tuple #[.agg #[.int .i64 0, .int .i64 0, .string ⟨#[]⟩, .int .i64 0], .bool false]) w := by kernel_rfl
theorem as_ack_pay (v : Value) (w : World) : (Instr.typeAssert (.iface 116 v) 97 114 true).run Tryd.prog w = .ok (.tuple #[.agg #[.int .i64 0, .int .i64 0, .int .i64 0, .int .i64 0, .string ⟨#[]⟩, .int .i64 0], .bool false]) w := by kernel_rfl
theorem as_ack_ack (v : Value) (w : World) : (Instr.typeAssert (.iface 116 v) 97 116 true).run Tryd.prog w = .ok (.tuple #[v, .bool true]) w := by kernel_rfl
set_option maxRecDepth 100000 in
set_option maxHeartbeats 2000000 in
theorem msgOf_want (F T : Int) (k : ByteArray) (N : Int) (w : World) : Calls Tryd.prog 84 #[.iface 112 (.agg #[.int .i64 F, .int .i64 T, .string k, .int .i64 N])] w fun e w' => e = .returned (mgv ⟨0, F, T, 0, 0, k, N⟩) ∧ Below w.heap.size w w' := by
  have f0 := as_want_want (.agg #[.int .i64 F, .int .i64 T, .string k, .int .i64 N])
  go_enter Tryd.func84, Tryd.ntmps84
  go_wp2_with fail
  refine bodyPost_ret (v := .agg #[.int .i64 0, .int .i64 F, .int .i64 T, .int .i64 0, .int .i64 0, .string k, .int .i64 N]) (by simp [results, Tryd.results84, go_sem]; try rfl) rfl ⟨rfl, ?_⟩
  exact ((Below.refl _ _).alloc (Nat.le_refl _) _).alloc (by simp) _

set_option maxRecDepth 100000 in
set_option maxHeartbeats 2000000 in
theorem msgOf_pay (F T I L : Int) (k : ByteArray) (N : Int) (w : World) : Calls Tryd.prog 84 #[.iface 114 (.agg #[.int .i64 F, .int .i64 T, .int .i64 I, .int .i64 L, .string k, .int .i64 N])] w fun e w' => e = .returned (mgv ⟨1, F, T, I, L, k, N⟩) ∧ Below w.heap.size w w' := by
  have f0 := as_pay_want (.agg #[.int .i64 F, .int .i64 T, .int .i64 I, .int .i64 L, .string k, .int .i64 N])
  have f1 := as_pay_pay (.agg #[.int .i64 F, .int .i64 T, .int .i64 I, .int .i64 L, .string k, .int .i64 N])
  go_enter Tryd.func84, Tryd.ntmps84
  go_wp2_with fail
  refine bodyPost_ret (v := .agg #[.int .i64 1, .int .i64 F, .int .i64 T, .int .i64 I, .int .i64 L, .string k, .int .i64 N]) (by simp [results, Tryd.results84, go_sem]; try rfl) rfl ⟨rfl, ?_⟩
  exact ((Below.refl _ _).alloc (Nat.le_refl _) _).alloc (by simp) _

set_option maxRecDepth 100000 in
set_option maxHeartbeats 2000000 in
theorem msgOf_ack (F T I : Int) (w : World) : Calls Tryd.prog 84 #[.iface 116 (.agg #[.int .i64 F, .int .i64 T, .int .i64 I])] w fun e w' => e = .returned (mgv ⟨2, F, T, I, 0, ByteArray.empty, 0⟩) ∧ Below w.heap.size w w' := by
  have f0 := as_ack_want (.agg #[.int .i64 F, .int .i64 T, .int .i64 I])
  have f1 := as_ack_pay (.agg #[.int .i64 F, .int .i64 T, .int .i64 I])
  have f2 := as_ack_ack (.agg #[.int .i64 F, .int .i64 T, .int .i64 I])
  go_enter Tryd.func84, Tryd.ntmps84
  go_wp2_with fail
  refine bodyPost_ret (v := .agg #[.int .i64 2, .int .i64 F, .int .i64 T, .int .i64 I, .int .i64 0, .string ByteArray.empty, .int .i64 0]) (by simp [results, Tryd.results84, go_sem]; try rfl) rfl ⟨rfl, ?_⟩
  exact ((Below.refl _ _).alloc (Nat.le_refl _) _).alloc (by simp) _

end Go.Proofs.YtiinpdkgnflmeaaDoor
