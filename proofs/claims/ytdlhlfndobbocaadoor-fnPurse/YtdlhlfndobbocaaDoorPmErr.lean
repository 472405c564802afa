/-
  The program's five named errors: what errors.Is comes to at them, and the program's isRefusal.
-/
import Derived.Test.YtdlhlfndobbocaaDoorBase
import Derived.LaidEql
import Derived.Stop.Asserts
import Derived.RowKitTokens
import Derived.Below
namespace Go.Proofs.YtdlhlfndobbocaaDoor
open Go.RowKit Go.Extern.Stop Go.Stop Go.Extern

/-- The named errors lie in their variables: five pointers, no two alike. -/
structure Errs (w : World) (E : Nat → Addr) : Prop where
  var : ∀ i, i < 5 → w.cell? ⟨i, 0, none⟩ = some (.iface 114 (.pointer (some (E i))))
  row : ∀ i, i < 5 → ∃ c t, w.heap[(E i).block]? = some (.cells c t (0, 0))
  ne : ∀ i j, i < 5 → j < 5 → i ≠ j → E i ≠ E j
theorem Errs.below {w w' : World} {E : Nat → Addr} (h : Errs w E) (hb : Below w.heap.size w w') : Errs w' E := by
  refine ⟨fun i hi => ?_, fun i hi => ?_, h.ne⟩
  · rw [hb.cell (p := ⟨i, 0, none⟩) (World.block_lt_of_cell? _ _ (h.var i hi))]
    exact h.var i hi
  · obtain ⟨c, t, hc⟩ := h.row i hi
    refine ⟨c, t, ?_⟩
    rw [hb.block _ ?_]
    · exact hc
    · rcases Nat.lt_or_ge (E i).block w.heap.size with h' | h'
      · exact h'
      · rw [Array.getElem?_eq_none h'] at hc; cases hc
abbrev errV (a : Addr) : Value := .iface 114 (.pointer (some a))

namespace Is
theorem typeOf (v : Value) (w : World) : (Extern.ReflectliteType.typeOf #[.iface 114 v]).run Tryd.prog w = .ok (.iface 101 (.agg #[.pointer (some ⟨5, 114, none⟩)])) w := by kernel_rfl
/-- The model's own entry for (rtype).Comparable. -/
def cmp : Array Value → Sem Value := Extern.ReflectliteType.method fun t => do Extern.Rtype.noPackHeld "Comparable" t; pure (.bool (← typeInfo t).comparable)
theorem comparable (w : World) : (cmp #[.agg #[.pointer (some ⟨5, 114, none⟩)]]).run Tryd.prog w = .ok (.bool true) w := by kernel_rfl
theorem methodComparable (v : Value) (w : World) : (Go.method 250 101 v "Comparable").run Tryd.prog w = .ok (105, v) w := by kernel_rfl
theorem comp : (Tryd.prog.info? 114).map (·.comparable) = some true := by kernel_rfl
theorem size : (Tryd.prog.info? 139).map (·.size) = some 1 := by kernel_rfl
theorem noIs (v : Value) (xT : TypeId) (w : World) : (Instr.typeAssert (.iface 114 v) xT 103 true).run Tryd.prog w = .ok (.tuple #[.nilIface, .bool false]) w := run_typeAssert_lacksB Tryd.underlying103 (by kernel_rfl) (by kernel_rfl) v xT w
theorem noUnwrap (v : Value) (xT : TypeId) (w : World) : (Instr.typeAssert (.iface 114 v) xT 105 true).run Tryd.prog w = .ok (.tuple #[.nilIface, .bool false]) w := run_typeAssert_lacksB Tryd.underlying105 (by kernel_rfl) (by kernel_rfl) v xT w
theorem noUnwraps (v : Value) (xT : TypeId) (w : World) : (Instr.typeAssert (.iface 114 v) xT 107 true).run Tryd.prog w = .ok (.tuple #[.nilIface, .bool false]) w := run_typeAssert_lacksB Tryd.underlying107 (by kernel_rfl) (by kernel_rfl) v xT w
end Is

set_option maxRecDepth 100000 in
/-- errors.Is(x, x). -/
theorem is_same (a : Addr) (w : World) : Calls Tryd.prog 65 #[errV a, errV a] w fun e w' => e = .returned (.bool true) ∧ w = w' := by
  obtain ⟨i, hi, hcmp⟩ := Option.map_eq_some_iff.1 Is.comp
  obtain ⟨j, hj, hjs⟩ := Option.map_eq_some_iff.1 Is.size
  have h8 := @run_callFunc_extern Tryd.prog 75 _ Extern.ReflectliteType.typeOf Tryd.func75 (by kernel_rfl) (by kernel_rfl) (by kernel_rfl) (by kernel_rfl)
  have h32 := @run_callFunc_extern Tryd.prog 105 _ Is.cmp Tryd.func105 (by kernel_rfl) (by kernel_rfl) (by kernel_rfl) (by kernel_rfl)
  have tT := Is.typeOf
  have cT := Is.comparable
  have mR := Is.methodComparable
  have heq := run_eql_iface_ptr_same (P := Tryd.prog) w a Tryd.underlying61 Tryd.underlying114 hi hcmp hj
  go_enter Tryd.func65, Tryd.ntmps65
  go_wp2
  refine wp_loop_rounds 1 ?_
  rw [rounds_succ]
  go_wp2
  go_ret
  exact ⟨rfl, rfl⟩

set_option maxRecDepth 100000 in
/-- errors.Is(nil, x). -/
theorem is_nil (b : Addr) (w : World) : Calls Tryd.prog 65 #[.nilIface, errV b] w fun e w' => e = .returned (.bool false) ∧ w = w' := by
  have hn := run_eql_iface_nil_left (P := Tryd.prog) w 114 (.pointer (some b)) Tryd.underlying61
  go_enter Tryd.func65, Tryd.ntmps65
  go_wp2
  go_ret
  exact ⟨rfl, rfl⟩

set_option maxRecDepth 100000 in
/-- errors.Is(x, y), two different pointers to errors of errors.New's make. -/
theorem is_other (a b : Addr) (ca cb : Array Value) (ta tb : TypeId) (w : World) (hne : a ≠ b) (ha : w.heap[a.block]? = some (.cells ca ta (0, 0))) (hb : w.heap[b.block]? = some (.cells cb tb (0, 0))) :
    Calls Tryd.prog 65 #[errV a, errV b] w fun e w' => e = .returned (.bool false) ∧ w = w' := by
  obtain ⟨i, hi, hcmp⟩ := Option.map_eq_some_iff.1 Is.comp
  obtain ⟨j, hj, hjs⟩ := Option.map_eq_some_iff.1 Is.size
  have h8 := @run_callFunc_extern Tryd.prog 75 _ Extern.ReflectliteType.typeOf Tryd.func75 (by kernel_rfl) (by kernel_rfl) (by kernel_rfl) (by kernel_rfl)
  have h32 := @run_callFunc_extern Tryd.prog 105 _ Is.cmp Tryd.func105 (by kernel_rfl) (by kernel_rfl) (by kernel_rfl) (by kernel_rfl)
  have tT := Is.typeOf
  have cT := Is.comparable
  have mR := Is.methodComparable
  have nE := Is.noIs
  have uE := Is.noUnwrap
  have vE := Is.noUnwraps
  have heq := run_eql_iface_ptr_other (P := Tryd.prog) w Tryd.underlying61 Tryd.underlying114 hi hcmp hj (by rw [hjs]; decide) hne ha hb
  go_enter Tryd.func65, Tryd.ntmps65
  go_wp2
  refine wp_loop_rounds 1 ?_
  rw [rounds_succ]
  go_wp2
  go_ret
  exact ⟨rfl, rfl⟩
theorem is_at {w : World} {E : Nat → Addr} (h : Errs w E) (i j : Nat) (b : Bool) (hi : i < 5) (hj : j < 5) (hb : (i == j) = b) : Calls Tryd.prog 65 #[errV (E i), errV (E j)] w fun e w' => e = .returned (.bool b) ∧ w = w' := by
  cases b with
  | true =>
    have e : i = j := by simpa using hb
    subst e
    exact is_same (E i) w
  | false =>
    obtain ⟨c1, t1, h1⟩ := h.row i hi
    obtain ⟨c2, t2, h2⟩ := h.row j hj
    exact is_other (E i) (E j) c1 c2 t1 t2 w (h.ne i j hi hj (by simpa using hb)) h1 h2
end Go.Proofs.YtdlhlfndobbocaaDoor
