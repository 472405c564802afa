/-
  NARROWER THAN 'FOR EVERY INPUT', by the rows' own cells (each row's printed sentence says how): FnExactWorldOk: ifaces, laid.
  DERIVED. THE GIVEN ROWS OF THIS SEAT. 1 by the template 'for every input the law returns true; each argument reads behind the call as it read before'; 0 by the template 'total and deterministic' (their statements: YtfachhcijcjbpaaGreatDoorTotals.lean).
  GIVEN WITH THE SEED: the statements are not yours to turn. If you find one false, say at which input.
  Laid BY PROGRAM, IN A SANDBOX (cutbox-rows.mjs): the forced cells as the released guide's own fill.sh prints them over the translation ab0b9530911c13df… (all of the seat's roots in one cut). By AI agents, Wed Nov 11 2026. No macro, syntax, notation, axiom, sorry.
-/
import Derived.Test.YtfachhcijcjbpaaGreatDoorChecked
import GoSem.Claim
import GoSem.ClaimJoined
import GoSem.ClaimMapViews
import Derived.JoinedTies
import Derived.KernelRfl
namespace Go.Proofs.YtfachhcijcjbpaaGreatDoor
/- THE CELL 'sum', in the pinned program and in every row, IS THE sha256 OF THE DUMP (.gsa) THAT YtfachhcijcjbpaaGreatDoorProg.lean LOADS. Nothing in Lean hashes anything: it is a label: what it is worth is what the hold of that sum in a sandbox is worth. -/
noncomputable def Tryz.pinned : Pinned := { name := "ytfachhcijcjbpaagreatdoor", sum := "ab0b9530911c13df2efda574448a869229ca4dda0b42cafca211e1182000975f", checked := Tryz.checked }
namespace Rows
def none {H : Type} : Left H := { results := [], args := [] }

/- WHAT THE LISTED PACKAGE-LEVEL VARIABLES READ AS WHEN THE CALL BEGINS. Each datum BY PROGRAM (the guide's laid-datum.mjs) off the statement by which the dump's own 'gosem.cut.vars' lays the variable. In a bare row this is a premise. The card (YtfachhcijcjbpaaGreatDoorCards.lean) ties it to the program's text. -/
def laid_errors_errorType {H : Type} : DataW H := .iface "internal/reflectlite.rtype" (.agg [.ptr (.lit (.string [101, 114, 114, 111, 114]))])
def laid_loop_example_g00264_impl_errNoPurses {H : Type} : DataW H := .iface "*errors.errorString" (.ptr (.agg [.lit (.string [110, 111, 32, 108, 105, 115, 116, 32, 111, 102, 32, 112, 117, 114, 115, 101, 115])]))
def laid_loop_example_g00264_impl_errNoKey {H : Type} : DataW H := .iface "*errors.errorString" (.ptr (.agg [.lit (.string [110, 111, 32, 107, 101, 121])]))
def laid_loop_example_g00264_impl_errNoAmount {H : Type} : DataW H := .iface "*errors.errorString" (.ptr (.agg [.lit (.string [110, 111, 32, 97, 109, 111, 117, 110, 116, 32, 111, 102, 32, 49, 32, 111, 114, 32, 109, 111, 114, 101])]))
def laid_loop_example_g00264_impl_errFewer {H : Type} : DataW H := .iface "*errors.errorString" (.ptr (.agg [.lit (.string [116, 104, 101, 114, 101, 32, 97, 114, 101, 32, 102, 101, 119, 101, 114])]))
def laid_loop_example_g00264_impl_errBeyond {H : Type} : DataW H := .iface "*errors.errorString" (.ptr (.agg [.lit (.string [98, 101, 121, 111, 110, 100, 32, 119, 104, 97, 116, 32, 112, 117, 114, 115, 101, 115, 32, 109, 97, 121, 32, 104, 97, 118, 101])]))

/-- 'laws.FnExactWorldOk': WHATEVER THE INPUT: true; the input reads as it did. -/
def fnExactWorldOkSpec : ChangeSpec := { name := "fnExactWorldOk", vars := ["loop.example/g00264/impl.errNoKey", "loop.example/g00264/impl.errNoAmount", "loop.example/g00264/impl.errNoPurses", "loop.example/g00264/impl.errFewer", "loop.example/g00264/impl.errBeyond"], fn := fun _ => fun
  | [d, g1, g2, g3, g4, g5] => { results := [.lit (.bool true)], args := [d], vars := [g1, g2, g3, g4, g5] }
  | _ => none }
def fnExactWorldOkRow : OpenClaim := { program := "ytfachhcijcjbpaagreatdoor", sum := "ab0b9530911c13df2efda574448a869229ca4dda0b42cafca211e1182000975f", func := "loop.example/g00264/laws.FnExactWorldOk", spec := "fnExactWorldOk", inPlace := ["(*internal/sync.Mutex).Lock", "internal/race.Disable", "sync/atomic.CompareAndSwapInt32", "internal/race.Enable", "internal/race.Acquire", "(*internal/sync.Mutex).lockSlow", "internal/sync.runtime_canSpin", "internal/sync.runtime_doSpin", "internal/sync.throw", "internal/sync.runtime_nanotime", "internal/sync.runtime_SemacquireMutex", "sync/atomic.AddInt32", "(*internal/sync.Mutex).Unlock", "internal/race.ReleaseMerge", "(*internal/sync.Mutex).unlockSlow", "internal/sync.fatal", "internal/sync.runtime_Semrelease", "internal/reflectlite.ValueOf", "(internal/reflectlite.Value).Type", "(internal/reflectlite.Value).IsNil", "internal/reflectlite.TypeOf", "(internal/reflectlite.Value).Elem", "(internal/reflectlite.Value).Set", "slices.overlaps[string]", "slices.overlaps[loop.example/g00264/impl.Req]"], unfollowed := true, recurses := true, named := ["errors.errorType", "loop.example/g00264/impl.errNoKey", "loop.example/g00264/impl.errNoAmount", "loop.example/g00264/impl.errNoPurses", "loop.example/g00264/impl.errFewer", "loop.example/g00264/impl.errBeyond"], ifaces := true, apart := false, laid := [("errors.errorType", laid_errors_errorType), ("loop.example/g00264/impl.errNoPurses", laid_loop_example_g00264_impl_errNoPurses), ("loop.example/g00264/impl.errNoKey", laid_loop_example_g00264_impl_errNoKey), ("loop.example/g00264/impl.errNoAmount", laid_loop_example_g00264_impl_errNoAmount), ("loop.example/g00264/impl.errFewer", laid_loop_example_g00264_impl_errFewer), ("loop.example/g00264/impl.errBeyond", laid_loop_example_g00264_impl_errBeyond)] }
def FnExactWorldOkSaid : Prop := fnExactWorldOkRow.holds Tryz.pinned (OpenSpec.ofChange fnExactWorldOkSpec)

/-- ITS FALSE NEIGHBOUR: 'it returns false'. Refute it at one input. -/
def fnExactWorldOkWrong : ChangeSpec := { name := "fnExactWorldOk", vars := ["loop.example/g00264/impl.errNoKey", "loop.example/g00264/impl.errNoAmount", "loop.example/g00264/impl.errNoPurses", "loop.example/g00264/impl.errFewer", "loop.example/g00264/impl.errBeyond"], fn := fun _ => fun
  | [d, g1, g2, g3, g4, g5] => { results := [.lit (.bool false)], args := [d], vars := [g1, g2, g3, g4, g5] }
  | _ => none }
def FnExactWorldOkWrongFalsely : Prop := fnExactWorldOkRow.holds Tryz.pinned (OpenSpec.ofChange fnExactWorldOkWrong)

/- THE SECOND FORM. 'bulk': how many values and letters a reading holds, each counted each time it is reached (what is shared counts as often as it is met; a slice's spare places count too). A statement '..UptoSaid' is the law's where the arguments, and the package variables that the reading takes, are together of bulk at most 1048576: NARROWER than '..Said'. Prove '..Said' where nothing that the law and all that it calls make is longer than what came in: it says more and counts as full. Else prove '..UptoSaid'. A law counts once. -/
mutual
def uptoBulk {H : Type} : DataW H → Nat
  | .lit (.string bytes) => bytes.length + 1
  | .lit _ => 1
  | .nil => 1
  | .ptr d => uptoBulk d + 1
  | .slice elems spare => uptoBulkAll elems + uptoBulkAll spare + 1
  | .agg parts => uptoBulkAll parts + 1
  | .iface _ d => uptoBulk d + 1
  | .map entries => uptoBulkEntries entries + 1
  | .held _ => 1
def uptoBulkAll {H : Type} : List (DataW H) → Nat
  | [] => 0
  | d :: r => uptoBulk d + uptoBulkAll r
def uptoBulkEntries {H : Type} : List (Lit × DataW H) → Nat
  | [] => 0
  | x :: r => uptoBulkEntry x + uptoBulkEntries r
def uptoBulkEntry {H : Type} : Lit × DataW H → Nat
  | (.string bytes, d) => bytes.length + uptoBulk d + 1
  | (_, d) => uptoBulk d + 1
 end
def uptoSmall : (H : Type) → List (DataW H) → Bool := fun _ ds => decide (uptoBulkAll ds ≤ 1048576)
def OpenSpec.upto (s : _root_.Go.ChangeSpec) : _root_.Go.OpenSpec := { _root_.Go.OpenSpec.ofChange s with cond := some uptoSmall }

/-- 'laws.FnExactWorldOk', WHERE WHAT IT READS IS OF BULK AT MOST 1048576: true; the input reads as it did. -/
def fnExactWorldOkUptoRow : OpenClaim := { program := "ytfachhcijcjbpaagreatdoor", sum := "ab0b9530911c13df2efda574448a869229ca4dda0b42cafca211e1182000975f", func := "loop.example/g00264/laws.FnExactWorldOk", spec := "fnExactWorldOk", inPlace := ["(*internal/sync.Mutex).Lock", "internal/race.Disable", "sync/atomic.CompareAndSwapInt32", "internal/race.Enable", "internal/race.Acquire", "(*internal/sync.Mutex).lockSlow", "internal/sync.runtime_canSpin", "internal/sync.runtime_doSpin", "internal/sync.throw", "internal/sync.runtime_nanotime", "internal/sync.runtime_SemacquireMutex", "sync/atomic.AddInt32", "(*internal/sync.Mutex).Unlock", "internal/race.ReleaseMerge", "(*internal/sync.Mutex).unlockSlow", "internal/sync.fatal", "internal/sync.runtime_Semrelease", "internal/reflectlite.ValueOf", "(internal/reflectlite.Value).Type", "(internal/reflectlite.Value).IsNil", "internal/reflectlite.TypeOf", "(internal/reflectlite.Value).Elem", "(internal/reflectlite.Value).Set", "slices.overlaps[string]", "slices.overlaps[loop.example/g00264/impl.Req]"], unfollowed := true, recurses := true, named := ["errors.errorType", "loop.example/g00264/impl.errNoKey", "loop.example/g00264/impl.errNoAmount", "loop.example/g00264/impl.errNoPurses", "loop.example/g00264/impl.errFewer", "loop.example/g00264/impl.errBeyond"], ifaces := true, apart := false, laid := [("errors.errorType", laid_errors_errorType), ("loop.example/g00264/impl.errNoPurses", laid_loop_example_g00264_impl_errNoPurses), ("loop.example/g00264/impl.errNoKey", laid_loop_example_g00264_impl_errNoKey), ("loop.example/g00264/impl.errNoAmount", laid_loop_example_g00264_impl_errNoAmount), ("loop.example/g00264/impl.errFewer", laid_loop_example_g00264_impl_errFewer), ("loop.example/g00264/impl.errBeyond", laid_loop_example_g00264_impl_errBeyond)], narrowed := true }
def FnExactWorldOkUptoSaid : Prop := fnExactWorldOkUptoRow.holds Tryz.pinned (OpenSpec.upto fnExactWorldOkSpec)

end Rows
end Go.Proofs.YtfachhcijcjbpaaGreatDoor
