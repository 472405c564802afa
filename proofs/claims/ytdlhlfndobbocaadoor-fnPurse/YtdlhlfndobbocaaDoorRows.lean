/-
  NARROWER THAN 'FOR EVERY INPUT', by the rows' own cells (each row's printed sentence says how): FnPurse: ifaces, laid · FnExactMint: ifaces, laid · FnExactGain: ifaces, laid · FnExactPart: ifaces, laid · FnExactSpend: ifaces, laid · FnExactUnspend: ifaces, laid.
  DERIVED. THE GIVEN ROWS OF THIS SEAT. 6 by the template 'for every input the law returns true; each argument reads behind the call as it read before'; 0 by the template 'total and deterministic' (their statements: YtdlhlfndobbocaaDoorTotals.lean).
  GIVEN WITH THE SEED: the statements are not yours to turn. If you find one false, say at which input.
  Laid BY PROGRAM, IN A SANDBOX (cutbox-rows.mjs): the forced cells as the released guide's own fill.sh prints them over the translation aab36d1d6c1eee45… (all of the seat's roots in one cut). By AI agents, Wed Nov 11 2026. No macro, syntax, notation, axiom, sorry.
-/
import Derived.Test.YtdlhlfndobbocaaDoorChecked
import GoSem.Claim
import GoSem.ClaimJoined
import GoSem.ClaimMapViews
import Derived.JoinedTies
import Derived.KernelRfl
namespace Go.Proofs.YtdlhlfndobbocaaDoor
/- THE CELL 'sum', in the pinned program and in every row, IS THE sha256 OF THE DUMP (.gsa) THAT YtdlhlfndobbocaaDoorProg.lean LOADS. Nothing in Lean hashes anything: it is a label: what it is worth is what the hold of that sum in a sandbox is worth. -/
noncomputable def Tryd.pinned : Pinned := { name := "ytdlhlfndobbocaadoor", sum := "aab36d1d6c1eee4500c94b18c9237586e99f4638494c18cdfdfdcdbfa5e48cd1", checked := Tryd.checked }
namespace Rows
def none {H : Type} : Left H := { results := [], args := [] }

/- WHAT THE LISTED PACKAGE-LEVEL VARIABLES READ AS WHEN THE CALL BEGINS. Each datum BY PROGRAM (the guide's laid-datum.mjs) off the statement by which the dump's own 'gosem.cut.vars' lays the variable. In a bare row this is a premise. The card (YtdlhlfndobbocaaDoorCards.lean) ties it to the program's text. -/
def laid_loop_example_g00264_impl_errNoPurses {H : Type} : DataW H := .iface "*errors.errorString" (.ptr (.agg [.lit (.string [110, 111, 32, 108, 105, 115, 116, 32, 111, 102, 32, 112, 117, 114, 115, 101, 115])]))
def laid_loop_example_g00264_impl_errNoKey {H : Type} : DataW H := .iface "*errors.errorString" (.ptr (.agg [.lit (.string [110, 111, 32, 107, 101, 121])]))
def laid_loop_example_g00264_impl_errNoAmount {H : Type} : DataW H := .iface "*errors.errorString" (.ptr (.agg [.lit (.string [110, 111, 32, 97, 109, 111, 117, 110, 116, 32, 111, 102, 32, 49, 32, 111, 114, 32, 109, 111, 114, 101])]))
def laid_loop_example_g00264_impl_errFewer {H : Type} : DataW H := .iface "*errors.errorString" (.ptr (.agg [.lit (.string [116, 104, 101, 114, 101, 32, 97, 114, 101, 32, 102, 101, 119, 101, 114])]))
def laid_loop_example_g00264_impl_errBeyond {H : Type} : DataW H := .iface "*errors.errorString" (.ptr (.agg [.lit (.string [98, 101, 121, 111, 110, 100, 32, 119, 104, 97, 116, 32, 112, 117, 114, 115, 101, 115, 32, 109, 97, 121, 32, 104, 97, 118, 101])]))

/-- 'laws.FnPurse': WHATEVER THE INPUT: true; the input reads as it did. -/
def fnPurseSpec : ChangeSpec := { name := "fnPurse", vars := ["loop.example/g00264/impl.errNoKey", "loop.example/g00264/impl.errNoAmount", "loop.example/g00264/impl.errNoPurses", "loop.example/g00264/impl.errFewer", "loop.example/g00264/impl.errBeyond"], fn := fun _ => fun
  | [d, g1, g2, g3, g4, g5] => { results := [.lit (.bool true)], args := [d], vars := [g1, g2, g3, g4, g5] }
  | _ => none }
def fnPurseRow : OpenClaim := { program := "ytdlhlfndobbocaadoor", sum := "aab36d1d6c1eee4500c94b18c9237586e99f4638494c18cdfdfdcdbfa5e48cd1", func := "loop.example/g00264/laws.FnPurse", spec := "fnPurse", inPlace := ["slices.overlaps[string]", "internal/reflectlite.TypeOf"], unfollowed := true, recurses := true, named := ["loop.example/g00264/impl.errNoKey", "loop.example/g00264/impl.errNoAmount", "loop.example/g00264/impl.errNoPurses", "loop.example/g00264/impl.errFewer", "loop.example/g00264/impl.errBeyond"], ifaces := true, apart := false, laid := [("loop.example/g00264/impl.errNoPurses", laid_loop_example_g00264_impl_errNoPurses), ("loop.example/g00264/impl.errNoKey", laid_loop_example_g00264_impl_errNoKey), ("loop.example/g00264/impl.errNoAmount", laid_loop_example_g00264_impl_errNoAmount), ("loop.example/g00264/impl.errFewer", laid_loop_example_g00264_impl_errFewer), ("loop.example/g00264/impl.errBeyond", laid_loop_example_g00264_impl_errBeyond)] }
def FnPurseSaid : Prop := fnPurseRow.holds Tryd.pinned (OpenSpec.ofChange fnPurseSpec)

/-- ITS FALSE NEIGHBOUR: 'it returns false'. Refute it at one input. -/
def fnPurseWrong : ChangeSpec := { name := "fnPurse", vars := ["loop.example/g00264/impl.errNoKey", "loop.example/g00264/impl.errNoAmount", "loop.example/g00264/impl.errNoPurses", "loop.example/g00264/impl.errFewer", "loop.example/g00264/impl.errBeyond"], fn := fun _ => fun
  | [d, g1, g2, g3, g4, g5] => { results := [.lit (.bool false)], args := [d], vars := [g1, g2, g3, g4, g5] }
  | _ => none }
def FnPurseWrongFalsely : Prop := fnPurseRow.holds Tryd.pinned (OpenSpec.ofChange fnPurseWrong)

/-- 'laws.FnExactMint': WHATEVER THE INPUT: true; the input reads as it did. -/
def fnExactMintSpec : ChangeSpec := { name := "fnExactMint", vars := ["loop.example/g00264/impl.errNoKey", "loop.example/g00264/impl.errNoAmount", "loop.example/g00264/impl.errNoPurses", "loop.example/g00264/impl.errFewer", "loop.example/g00264/impl.errBeyond"], fn := fun _ => fun
  | [d1, d2, d3, g1, g2, g3, g4, g5] => { results := [.lit (.bool true)], args := [d1, d2, d3], vars := [g1, g2, g3, g4, g5] }
  | _ => none }
def fnExactMintRow : OpenClaim := { program := "ytdlhlfndobbocaadoor", sum := "aab36d1d6c1eee4500c94b18c9237586e99f4638494c18cdfdfdcdbfa5e48cd1", func := "loop.example/g00264/laws.FnExactMint", spec := "fnExactMint", inPlace := ["slices.overlaps[string]", "internal/reflectlite.TypeOf"], unfollowed := true, recurses := true, named := ["loop.example/g00264/impl.errNoKey", "loop.example/g00264/impl.errNoAmount", "loop.example/g00264/impl.errNoPurses", "loop.example/g00264/impl.errFewer", "loop.example/g00264/impl.errBeyond"], ifaces := true, apart := false, laid := [("loop.example/g00264/impl.errNoPurses", laid_loop_example_g00264_impl_errNoPurses), ("loop.example/g00264/impl.errNoKey", laid_loop_example_g00264_impl_errNoKey), ("loop.example/g00264/impl.errNoAmount", laid_loop_example_g00264_impl_errNoAmount), ("loop.example/g00264/impl.errFewer", laid_loop_example_g00264_impl_errFewer), ("loop.example/g00264/impl.errBeyond", laid_loop_example_g00264_impl_errBeyond)] }
def FnExactMintSaid : Prop := fnExactMintRow.holds Tryd.pinned (OpenSpec.ofChange fnExactMintSpec)

/-- ITS FALSE NEIGHBOUR: 'it returns false'. Refute it at one input. -/
def fnExactMintWrong : ChangeSpec := { name := "fnExactMint", vars := ["loop.example/g00264/impl.errNoKey", "loop.example/g00264/impl.errNoAmount", "loop.example/g00264/impl.errNoPurses", "loop.example/g00264/impl.errFewer", "loop.example/g00264/impl.errBeyond"], fn := fun _ => fun
  | [d1, d2, d3, g1, g2, g3, g4, g5] => { results := [.lit (.bool false)], args := [d1, d2, d3], vars := [g1, g2, g3, g4, g5] }
  | _ => none }
def FnExactMintWrongFalsely : Prop := fnExactMintRow.holds Tryd.pinned (OpenSpec.ofChange fnExactMintWrong)

/-- 'laws.FnExactGain': WHATEVER THE INPUT: true; the input reads as it did. -/
def fnExactGainSpec : ChangeSpec := { name := "fnExactGain", vars := ["loop.example/g00264/impl.errNoKey", "loop.example/g00264/impl.errNoAmount", "loop.example/g00264/impl.errNoPurses", "loop.example/g00264/impl.errFewer", "loop.example/g00264/impl.errBeyond"], fn := fun _ => fun
  | [d1, d2, d3, g1, g2, g3, g4, g5] => { results := [.lit (.bool true)], args := [d1, d2, d3], vars := [g1, g2, g3, g4, g5] }
  | _ => none }
def fnExactGainRow : OpenClaim := { program := "ytdlhlfndobbocaadoor", sum := "aab36d1d6c1eee4500c94b18c9237586e99f4638494c18cdfdfdcdbfa5e48cd1", func := "loop.example/g00264/laws.FnExactGain", spec := "fnExactGain", inPlace := ["slices.overlaps[string]", "internal/reflectlite.TypeOf"], unfollowed := true, recurses := true, named := ["loop.example/g00264/impl.errNoKey", "loop.example/g00264/impl.errNoAmount", "loop.example/g00264/impl.errNoPurses", "loop.example/g00264/impl.errFewer", "loop.example/g00264/impl.errBeyond"], ifaces := true, apart := false, laid := [("loop.example/g00264/impl.errNoPurses", laid_loop_example_g00264_impl_errNoPurses), ("loop.example/g00264/impl.errNoKey", laid_loop_example_g00264_impl_errNoKey), ("loop.example/g00264/impl.errNoAmount", laid_loop_example_g00264_impl_errNoAmount), ("loop.example/g00264/impl.errFewer", laid_loop_example_g00264_impl_errFewer), ("loop.example/g00264/impl.errBeyond", laid_loop_example_g00264_impl_errBeyond)] }
def FnExactGainSaid : Prop := fnExactGainRow.holds Tryd.pinned (OpenSpec.ofChange fnExactGainSpec)

/-- ITS FALSE NEIGHBOUR: 'it returns false'. Refute it at one input. -/
def fnExactGainWrong : ChangeSpec := { name := "fnExactGain", vars := ["loop.example/g00264/impl.errNoKey", "loop.example/g00264/impl.errNoAmount", "loop.example/g00264/impl.errNoPurses", "loop.example/g00264/impl.errFewer", "loop.example/g00264/impl.errBeyond"], fn := fun _ => fun
  | [d1, d2, d3, g1, g2, g3, g4, g5] => { results := [.lit (.bool false)], args := [d1, d2, d3], vars := [g1, g2, g3, g4, g5] }
  | _ => none }
def FnExactGainWrongFalsely : Prop := fnExactGainRow.holds Tryd.pinned (OpenSpec.ofChange fnExactGainWrong)

/-- 'laws.FnExactPart': WHATEVER THE INPUT: true; the input reads as it did. -/
def fnExactPartSpec : ChangeSpec := { name := "fnExactPart", vars := ["loop.example/g00264/impl.errNoKey", "loop.example/g00264/impl.errNoAmount", "loop.example/g00264/impl.errNoPurses", "loop.example/g00264/impl.errFewer", "loop.example/g00264/impl.errBeyond"], fn := fun _ => fun
  | [d1, d2, d3, g1, g2, g3, g4, g5] => { results := [.lit (.bool true)], args := [d1, d2, d3], vars := [g1, g2, g3, g4, g5] }
  | _ => none }
def fnExactPartRow : OpenClaim := { program := "ytdlhlfndobbocaadoor", sum := "aab36d1d6c1eee4500c94b18c9237586e99f4638494c18cdfdfdcdbfa5e48cd1", func := "loop.example/g00264/laws.FnExactPart", spec := "fnExactPart", inPlace := ["slices.overlaps[string]", "internal/reflectlite.TypeOf"], unfollowed := true, recurses := true, named := ["loop.example/g00264/impl.errNoKey", "loop.example/g00264/impl.errNoAmount", "loop.example/g00264/impl.errNoPurses", "loop.example/g00264/impl.errFewer", "loop.example/g00264/impl.errBeyond"], ifaces := true, apart := false, laid := [("loop.example/g00264/impl.errNoPurses", laid_loop_example_g00264_impl_errNoPurses), ("loop.example/g00264/impl.errNoKey", laid_loop_example_g00264_impl_errNoKey), ("loop.example/g00264/impl.errNoAmount", laid_loop_example_g00264_impl_errNoAmount), ("loop.example/g00264/impl.errFewer", laid_loop_example_g00264_impl_errFewer), ("loop.example/g00264/impl.errBeyond", laid_loop_example_g00264_impl_errBeyond)] }
def FnExactPartSaid : Prop := fnExactPartRow.holds Tryd.pinned (OpenSpec.ofChange fnExactPartSpec)

/-- ITS FALSE NEIGHBOUR: 'it returns false'. Refute it at one input. -/
def fnExactPartWrong : ChangeSpec := { name := "fnExactPart", vars := ["loop.example/g00264/impl.errNoKey", "loop.example/g00264/impl.errNoAmount", "loop.example/g00264/impl.errNoPurses", "loop.example/g00264/impl.errFewer", "loop.example/g00264/impl.errBeyond"], fn := fun _ => fun
  | [d1, d2, d3, g1, g2, g3, g4, g5] => { results := [.lit (.bool false)], args := [d1, d2, d3], vars := [g1, g2, g3, g4, g5] }
  | _ => none }
def FnExactPartWrongFalsely : Prop := fnExactPartRow.holds Tryd.pinned (OpenSpec.ofChange fnExactPartWrong)

/-- 'laws.FnExactSpend': WHATEVER THE INPUT: true; the input reads as it did. -/
def fnExactSpendSpec : ChangeSpec := { name := "fnExactSpend", vars := ["loop.example/g00264/impl.errNoKey", "loop.example/g00264/impl.errNoAmount", "loop.example/g00264/impl.errNoPurses", "loop.example/g00264/impl.errFewer", "loop.example/g00264/impl.errBeyond"], fn := fun _ => fun
  | [d1, d2, d3, g1, g2, g3, g4, g5] => { results := [.lit (.bool true)], args := [d1, d2, d3], vars := [g1, g2, g3, g4, g5] }
  | _ => none }
def fnExactSpendRow : OpenClaim := { program := "ytdlhlfndobbocaadoor", sum := "aab36d1d6c1eee4500c94b18c9237586e99f4638494c18cdfdfdcdbfa5e48cd1", func := "loop.example/g00264/laws.FnExactSpend", spec := "fnExactSpend", inPlace := ["slices.overlaps[string]", "internal/reflectlite.TypeOf"], unfollowed := true, recurses := true, named := ["loop.example/g00264/impl.errNoKey", "loop.example/g00264/impl.errNoAmount", "loop.example/g00264/impl.errNoPurses", "loop.example/g00264/impl.errFewer", "loop.example/g00264/impl.errBeyond"], ifaces := true, apart := false, laid := [("loop.example/g00264/impl.errNoPurses", laid_loop_example_g00264_impl_errNoPurses), ("loop.example/g00264/impl.errNoKey", laid_loop_example_g00264_impl_errNoKey), ("loop.example/g00264/impl.errNoAmount", laid_loop_example_g00264_impl_errNoAmount), ("loop.example/g00264/impl.errFewer", laid_loop_example_g00264_impl_errFewer), ("loop.example/g00264/impl.errBeyond", laid_loop_example_g00264_impl_errBeyond)] }
def FnExactSpendSaid : Prop := fnExactSpendRow.holds Tryd.pinned (OpenSpec.ofChange fnExactSpendSpec)

/-- ITS FALSE NEIGHBOUR: 'it returns false'. Refute it at one input. -/
def fnExactSpendWrong : ChangeSpec := { name := "fnExactSpend", vars := ["loop.example/g00264/impl.errNoKey", "loop.example/g00264/impl.errNoAmount", "loop.example/g00264/impl.errNoPurses", "loop.example/g00264/impl.errFewer", "loop.example/g00264/impl.errBeyond"], fn := fun _ => fun
  | [d1, d2, d3, g1, g2, g3, g4, g5] => { results := [.lit (.bool false)], args := [d1, d2, d3], vars := [g1, g2, g3, g4, g5] }
  | _ => none }
def FnExactSpendWrongFalsely : Prop := fnExactSpendRow.holds Tryd.pinned (OpenSpec.ofChange fnExactSpendWrong)

/-- 'laws.FnExactUnspend': WHATEVER THE INPUT: true; the input reads as it did. -/
def fnExactUnspendSpec : ChangeSpec := { name := "fnExactUnspend", vars := ["loop.example/g00264/impl.errNoKey", "loop.example/g00264/impl.errNoAmount", "loop.example/g00264/impl.errNoPurses", "loop.example/g00264/impl.errFewer", "loop.example/g00264/impl.errBeyond"], fn := fun _ => fun
  | [d1, d2, d3, g1, g2, g3, g4, g5] => { results := [.lit (.bool true)], args := [d1, d2, d3], vars := [g1, g2, g3, g4, g5] }
  | _ => none }
def fnExactUnspendRow : OpenClaim := { program := "ytdlhlfndobbocaadoor", sum := "aab36d1d6c1eee4500c94b18c9237586e99f4638494c18cdfdfdcdbfa5e48cd1", func := "loop.example/g00264/laws.FnExactUnspend", spec := "fnExactUnspend", inPlace := ["slices.overlaps[string]", "internal/reflectlite.TypeOf"], unfollowed := true, recurses := true, named := ["loop.example/g00264/impl.errNoKey", "loop.example/g00264/impl.errNoAmount", "loop.example/g00264/impl.errNoPurses", "loop.example/g00264/impl.errFewer", "loop.example/g00264/impl.errBeyond"], ifaces := true, apart := false, laid := [("loop.example/g00264/impl.errNoPurses", laid_loop_example_g00264_impl_errNoPurses), ("loop.example/g00264/impl.errNoKey", laid_loop_example_g00264_impl_errNoKey), ("loop.example/g00264/impl.errNoAmount", laid_loop_example_g00264_impl_errNoAmount), ("loop.example/g00264/impl.errFewer", laid_loop_example_g00264_impl_errFewer), ("loop.example/g00264/impl.errBeyond", laid_loop_example_g00264_impl_errBeyond)] }
def FnExactUnspendSaid : Prop := fnExactUnspendRow.holds Tryd.pinned (OpenSpec.ofChange fnExactUnspendSpec)

/-- ITS FALSE NEIGHBOUR: 'it returns false'. Refute it at one input. -/
def fnExactUnspendWrong : ChangeSpec := { name := "fnExactUnspend", vars := ["loop.example/g00264/impl.errNoKey", "loop.example/g00264/impl.errNoAmount", "loop.example/g00264/impl.errNoPurses", "loop.example/g00264/impl.errFewer", "loop.example/g00264/impl.errBeyond"], fn := fun _ => fun
  | [d1, d2, d3, g1, g2, g3, g4, g5] => { results := [.lit (.bool false)], args := [d1, d2, d3], vars := [g1, g2, g3, g4, g5] }
  | _ => none }
def FnExactUnspendWrongFalsely : Prop := fnExactUnspendRow.holds Tryd.pinned (OpenSpec.ofChange fnExactUnspendWrong)

/- THE SECOND FORM. 'bulk': how many values and letters a reading holds, each counted each time it is reached (what is shared counts as often as it is met; a slice's spare places count too). A statement '..UptoSaid' is the law's where the arguments, and the package variables that the reading takes, are together of bulk at most 1048576: NARROWER than '..Said'. Prove '..Said' where nothing that the law and all that it calls make is longer than what came in: it says more and counts as full. Else prove '..UptoSaid'. A law counts once. -/
mutual
def uptoBulk {H : Type} : DataW H → Nat
  | .lit (.string bytes) => bytes.length + 1
  | .lit _ => 1
  | .nil => 1
  | .ptr d => uptoBulk d + 1
  | .slice elems spare => uptoBulkAll elems + uptoBulkAll spare + 1
  | .agg parts => uptoBulkAll parts + 1
  | .iface _ d => uptoBulk d + 1
  | .map entries => uptoBulkEntries entries + 1
  | .held _ => 1
def uptoBulkAll {H : Type} : List (DataW H) → Nat
  | [] => 0
  | d :: r => uptoBulk d + uptoBulkAll r
def uptoBulkEntries {H : Type} : List (Lit × DataW H) → Nat
  | [] => 0
  | x :: r => uptoBulkEntry x + uptoBulkEntries r
def uptoBulkEntry {H : Type} : Lit × DataW H → Nat
  | (.string bytes, d) => bytes.length + uptoBulk d + 1
  | (_, d) => uptoBulk d + 1
 end
def uptoSmall : (H : Type) → List (DataW H) → Bool := fun _ ds => decide (uptoBulkAll ds ≤ 1048576)
def OpenSpec.upto (s : _root_.Go.ChangeSpec) : _root_.Go.OpenSpec := { _root_.Go.OpenSpec.ofChange s with cond := some uptoSmall }

/-- 'laws.FnPurse', WHERE WHAT IT READS IS OF BULK AT MOST 1048576: true; the input reads as it did. -/
def fnPurseUptoRow : OpenClaim := { program := "ytdlhlfndobbocaadoor", sum := "aab36d1d6c1eee4500c94b18c9237586e99f4638494c18cdfdfdcdbfa5e48cd1", func := "loop.example/g00264/laws.FnPurse", spec := "fnPurse", inPlace := ["slices.overlaps[string]", "internal/reflectlite.TypeOf"], unfollowed := true, recurses := true, named := ["loop.example/g00264/impl.errNoKey", "loop.example/g00264/impl.errNoAmount", "loop.example/g00264/impl.errNoPurses", "loop.example/g00264/impl.errFewer", "loop.example/g00264/impl.errBeyond"], ifaces := true, apart := false, laid := [("loop.example/g00264/impl.errNoPurses", laid_loop_example_g00264_impl_errNoPurses), ("loop.example/g00264/impl.errNoKey", laid_loop_example_g00264_impl_errNoKey), ("loop.example/g00264/impl.errNoAmount", laid_loop_example_g00264_impl_errNoAmount), ("loop.example/g00264/impl.errFewer", laid_loop_example_g00264_impl_errFewer), ("loop.example/g00264/impl.errBeyond", laid_loop_example_g00264_impl_errBeyond)], narrowed := true }
def FnPurseUptoSaid : Prop := fnPurseUptoRow.holds Tryd.pinned (OpenSpec.upto fnPurseSpec)

/-- 'laws.FnExactMint', WHERE WHAT IT READS IS OF BULK AT MOST 1048576: true; the input reads as it did. -/
def fnExactMintUptoRow : OpenClaim := { program := "ytdlhlfndobbocaadoor", sum := "aab36d1d6c1eee4500c94b18c9237586e99f4638494c18cdfdfdcdbfa5e48cd1", func := "loop.example/g00264/laws.FnExactMint", spec := "fnExactMint", inPlace := ["slices.overlaps[string]", "internal/reflectlite.TypeOf"], unfollowed := true, recurses := true, named := ["loop.example/g00264/impl.errNoKey", "loop.example/g00264/impl.errNoAmount", "loop.example/g00264/impl.errNoPurses", "loop.example/g00264/impl.errFewer", "loop.example/g00264/impl.errBeyond"], ifaces := true, apart := false, laid := [("loop.example/g00264/impl.errNoPurses", laid_loop_example_g00264_impl_errNoPurses), ("loop.example/g00264/impl.errNoKey", laid_loop_example_g00264_impl_errNoKey), ("loop.example/g00264/impl.errNoAmount", laid_loop_example_g00264_impl_errNoAmount), ("loop.example/g00264/impl.errFewer", laid_loop_example_g00264_impl_errFewer), ("loop.example/g00264/impl.errBeyond", laid_loop_example_g00264_impl_errBeyond)], narrowed := true }
def FnExactMintUptoSaid : Prop := fnExactMintUptoRow.holds Tryd.pinned (OpenSpec.upto fnExactMintSpec)

/-- 'laws.FnExactGain', WHERE WHAT IT READS IS OF BULK AT MOST 1048576: true; the input reads as it did. -/
def fnExactGainUptoRow : OpenClaim := { program := "ytdlhlfndobbocaadoor", sum := "aab36d1d6c1eee4500c94b18c9237586e99f4638494c18cdfdfdcdbfa5e48cd1", func := "loop.example/g00264/laws.FnExactGain", spec := "fnExactGain", inPlace := ["slices.overlaps[string]", "internal/reflectlite.TypeOf"], unfollowed := true, recurses := true, named := ["loop.example/g00264/impl.errNoKey", "loop.example/g00264/impl.errNoAmount", "loop.example/g00264/impl.errNoPurses", "loop.example/g00264/impl.errFewer", "loop.example/g00264/impl.errBeyond"], ifaces := true, apart := false, laid := [("loop.example/g00264/impl.errNoPurses", laid_loop_example_g00264_impl_errNoPurses), ("loop.example/g00264/impl.errNoKey", laid_loop_example_g00264_impl_errNoKey), ("loop.example/g00264/impl.errNoAmount", laid_loop_example_g00264_impl_errNoAmount), ("loop.example/g00264/impl.errFewer", laid_loop_example_g00264_impl_errFewer), ("loop.example/g00264/impl.errBeyond", laid_loop_example_g00264_impl_errBeyond)], narrowed := true }
def FnExactGainUptoSaid : Prop := fnExactGainUptoRow.holds Tryd.pinned (OpenSpec.upto fnExactGainSpec)

/-- 'laws.FnExactPart', WHERE WHAT IT READS IS OF BULK AT MOST 1048576: true; the input reads as it did. -/
def fnExactPartUptoRow : OpenClaim := { program := "ytdlhlfndobbocaadoor", sum := "aab36d1d6c1eee4500c94b18c9237586e99f4638494c18cdfdfdcdbfa5e48cd1", func := "loop.example/g00264/laws.FnExactPart", spec := "fnExactPart", inPlace := ["slices.overlaps[string]", "internal/reflectlite.TypeOf"], unfollowed := true, recurses := true, named := ["loop.example/g00264/impl.errNoKey", "loop.example/g00264/impl.errNoAmount", "loop.example/g00264/impl.errNoPurses", "loop.example/g00264/impl.errFewer", "loop.example/g00264/impl.errBeyond"], ifaces := true, apart := false, laid := [("loop.example/g00264/impl.errNoPurses", laid_loop_example_g00264_impl_errNoPurses), ("loop.example/g00264/impl.errNoKey", laid_loop_example_g00264_impl_errNoKey), ("loop.example/g00264/impl.errNoAmount", laid_loop_example_g00264_impl_errNoAmount), ("loop.example/g00264/impl.errFewer", laid_loop_example_g00264_impl_errFewer), ("loop.example/g00264/impl.errBeyond", laid_loop_example_g00264_impl_errBeyond)], narrowed := true }
def FnExactPartUptoSaid : Prop := fnExactPartUptoRow.holds Tryd.pinned (OpenSpec.upto fnExactPartSpec)

/-- 'laws.FnExactSpend', WHERE WHAT IT READS IS OF BULK AT MOST 1048576: true; the input reads as it did. -/
def fnExactSpendUptoRow : OpenClaim := { program := "ytdlhlfndobbocaadoor", sum := "aab36d1d6c1eee4500c94b18c9237586e99f4638494c18cdfdfdcdbfa5e48cd1", func := "loop.example/g00264/laws.FnExactSpend", spec := "fnExactSpend", inPlace := ["slices.overlaps[string]", "internal/reflectlite.TypeOf"], unfollowed := true, recurses := true, named := ["loop.example/g00264/impl.errNoKey", "loop.example/g00264/impl.errNoAmount", "loop.example/g00264/impl.errNoPurses", "loop.example/g00264/impl.errFewer", "loop.example/g00264/impl.errBeyond"], ifaces := true, apart := false, laid := [("loop.example/g00264/impl.errNoPurses", laid_loop_example_g00264_impl_errNoPurses), ("loop.example/g00264/impl.errNoKey", laid_loop_example_g00264_impl_errNoKey), ("loop.example/g00264/impl.errNoAmount", laid_loop_example_g00264_impl_errNoAmount), ("loop.example/g00264/impl.errFewer", laid_loop_example_g00264_impl_errFewer), ("loop.example/g00264/impl.errBeyond", laid_loop_example_g00264_impl_errBeyond)], narrowed := true }
def FnExactSpendUptoSaid : Prop := fnExactSpendUptoRow.holds Tryd.pinned (OpenSpec.upto fnExactSpendSpec)

/-- 'laws.FnExactUnspend', WHERE WHAT IT READS IS OF BULK AT MOST 1048576: true; the input reads as it did. -/
def fnExactUnspendUptoRow : OpenClaim := { program := "ytdlhlfndobbocaadoor", sum := "aab36d1d6c1eee4500c94b18c9237586e99f4638494c18cdfdfdcdbfa5e48cd1", func := "loop.example/g00264/laws.FnExactUnspend", spec := "fnExactUnspend", inPlace := ["slices.overlaps[string]", "internal/reflectlite.TypeOf"], unfollowed := true, recurses := true, named := ["loop.example/g00264/impl.errNoKey", "loop.example/g00264/impl.errNoAmount", "loop.example/g00264/impl.errNoPurses", "loop.example/g00264/impl.errFewer", "loop.example/g00264/impl.errBeyond"], ifaces := true, apart := false, laid := [("loop.example/g00264/impl.errNoPurses", laid_loop_example_g00264_impl_errNoPurses), ("loop.example/g00264/impl.errNoKey", laid_loop_example_g00264_impl_errNoKey), ("loop.example/g00264/impl.errNoAmount", laid_loop_example_g00264_impl_errNoAmount), ("loop.example/g00264/impl.errFewer", laid_loop_example_g00264_impl_errFewer), ("loop.example/g00264/impl.errBeyond", laid_loop_example_g00264_impl_errBeyond)], narrowed := true }
def FnExactUnspendUptoSaid : Prop := fnExactUnspendUptoRow.holds Tryd.pinned (OpenSpec.upto fnExactUnspendSpec)

end Rows
end Go.Proofs.YtdlhlfndobbocaaDoor
