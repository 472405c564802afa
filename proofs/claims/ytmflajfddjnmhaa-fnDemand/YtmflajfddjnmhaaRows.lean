/-
  No cell of these rows narrows 'for every input' (looked for: loops, veiled, ifaces, maps, wideKeys, modest, calm, conditions, laid).
  DERIVED. THE GIVEN ROWS OF THIS SEAT. 7 by the template 'for every input the law returns true; each argument reads behind the call as it read before'; 0 by the template 'total and deterministic' (their statements: YtmflajfddjnmhaaTotals.lean).
  GIVEN WITH THE SEED: the statements are not yours to turn. If you find one false, say at which input.
  Laid BY PROGRAM, IN A SANDBOX (cutbox-rows.mjs): the forced cells as the released guide's own fill.sh prints them over the translation 46cbc19f9dc12f31… (all of the seat's roots in one cut). By AI agents, Wed Nov 11 2026. No macro, syntax, notation, axiom, sorry.
-/
import Derived.Test.YtmflajfddjnmhaaChecked
import GoSem.Claim
import GoSem.ClaimJoined
import GoSem.ClaimMapViews
import Derived.JoinedTies
import Derived.KernelRfl
namespace Go.Proofs.Ytmflajfddjnmhaa
/- THE CELL 'sum', in the pinned program and in every row, IS THE sha256 OF THE DUMP (.gsa) THAT YtmflajfddjnmhaaProg.lean LOADS. Nothing in Lean hashes anything: it is a label: what it is worth is what the hold of that sum in a sandbox is worth. -/
noncomputable def Try.pinned : Pinned := { name := "ytmflajfddjnmhaa", sum := "46cbc19f9dc12f3187cdad5bc45ea93e011209d13070917b6a04d3a9ae50bb9b", checked := Try.checked }
namespace Rows
def none {H : Type} : Left H := { results := [], args := [] }

/-- 'laws.FnDemand': WHATEVER THE INPUT: true; the input reads as it did. -/
def fnDemandSpec : ChangeSpec := { name := "fnDemand", fn := fun _ => fun
  | [d] => { results := [.lit (.bool true)], args := [d] }
  | _ => none }
def fnDemandRow : OpenClaim := { program := "ytmflajfddjnmhaa", sum := "46cbc19f9dc12f3187cdad5bc45ea93e011209d13070917b6a04d3a9ae50bb9b", func := "loop.example/g00264/laws.FnDemand", spec := "fnDemand", apart := false }
def FnDemandSaid : Prop := fnDemandRow.holds Try.pinned (OpenSpec.ofChange fnDemandSpec)

/-- ITS FALSE NEIGHBOUR: 'it returns false'. Refute it at one input. -/
def fnDemandWrong : ChangeSpec := { name := "fnDemand", fn := fun _ => fun
  | [d] => { results := [.lit (.bool false)], args := [d] }
  | _ => none }
def FnDemandWrongFalsely : Prop := fnDemandRow.holds Try.pinned (OpenSpec.ofChange fnDemandWrong)

/-- 'laws.FnExactDemandOk': WHATEVER THE INPUT: true; the input reads as it did. -/
def fnExactDemandOkSpec : ChangeSpec := { name := "fnExactDemandOk", fn := fun _ => fun
  | [d] => { results := [.lit (.bool true)], args := [d] }
  | _ => none }
def fnExactDemandOkRow : OpenClaim := { program := "ytmflajfddjnmhaa", sum := "46cbc19f9dc12f3187cdad5bc45ea93e011209d13070917b6a04d3a9ae50bb9b", func := "loop.example/g00264/laws.FnExactDemandOk", spec := "fnExactDemandOk", apart := false }
def FnExactDemandOkSaid : Prop := fnExactDemandOkRow.holds Try.pinned (OpenSpec.ofChange fnExactDemandOkSpec)

/-- ITS FALSE NEIGHBOUR: 'it returns false'. Refute it at one input. -/
def fnExactDemandOkWrong : ChangeSpec := { name := "fnExactDemandOk", fn := fun _ => fun
  | [d] => { results := [.lit (.bool false)], args := [d] }
  | _ => none }
def FnExactDemandOkWrongFalsely : Prop := fnExactDemandOkRow.holds Try.pinned (OpenSpec.ofChange fnExactDemandOkWrong)

/-- 'laws.FnExactDemandAsk': WHATEVER THE INPUT: true; the input reads as it did. -/
def fnExactDemandAskSpec : ChangeSpec := { name := "fnExactDemandAsk", fn := fun _ => fun
  | [d1, d2] => { results := [.lit (.bool true)], args := [d1, d2] }
  | _ => none }
def fnExactDemandAskRow : OpenClaim := { program := "ytmflajfddjnmhaa", sum := "46cbc19f9dc12f3187cdad5bc45ea93e011209d13070917b6a04d3a9ae50bb9b", func := "loop.example/g00264/laws.FnExactDemandAsk", spec := "fnExactDemandAsk", apart := false }
def FnExactDemandAskSaid : Prop := fnExactDemandAskRow.holds Try.pinned (OpenSpec.ofChange fnExactDemandAskSpec)

/-- ITS FALSE NEIGHBOUR: 'it returns false'. Refute it at one input. -/
def fnExactDemandAskWrong : ChangeSpec := { name := "fnExactDemandAsk", fn := fun _ => fun
  | [d1, d2] => { results := [.lit (.bool false)], args := [d1, d2] }
  | _ => none }
def FnExactDemandAskWrongFalsely : Prop := fnExactDemandAskRow.holds Try.pinned (OpenSpec.ofChange fnExactDemandAskWrong)

/-- 'laws.FnExactDemandTick': WHATEVER THE INPUT: true; the input reads as it did. -/
def fnExactDemandTickSpec : ChangeSpec := { name := "fnExactDemandTick", fn := fun _ => fun
  | [d] => { results := [.lit (.bool true)], args := [d] }
  | _ => none }
def fnExactDemandTickRow : OpenClaim := { program := "ytmflajfddjnmhaa", sum := "46cbc19f9dc12f3187cdad5bc45ea93e011209d13070917b6a04d3a9ae50bb9b", func := "loop.example/g00264/laws.FnExactDemandTick", spec := "fnExactDemandTick", apart := false }
def FnExactDemandTickSaid : Prop := fnExactDemandTickRow.holds Try.pinned (OpenSpec.ofChange fnExactDemandTickSpec)

/-- ITS FALSE NEIGHBOUR: 'it returns false'. Refute it at one input. -/
def fnExactDemandTickWrong : ChangeSpec := { name := "fnExactDemandTick", fn := fun _ => fun
  | [d] => { results := [.lit (.bool false)], args := [d] }
  | _ => none }
def FnExactDemandTickWrongFalsely : Prop := fnExactDemandTickRow.holds Try.pinned (OpenSpec.ofChange fnExactDemandTickWrong)

/-- 'laws.FnExactForecast': WHATEVER THE INPUT: true; the input reads as it did. -/
def fnExactForecastSpec : ChangeSpec := { name := "fnExactForecast", fn := fun _ => fun
  | [d1, d2] => { results := [.lit (.bool true)], args := [d1, d2] }
  | _ => none }
def fnExactForecastRow : OpenClaim := { program := "ytmflajfddjnmhaa", sum := "46cbc19f9dc12f3187cdad5bc45ea93e011209d13070917b6a04d3a9ae50bb9b", func := "loop.example/g00264/laws.FnExactForecast", spec := "fnExactForecast", apart := false }
def FnExactForecastSaid : Prop := fnExactForecastRow.holds Try.pinned (OpenSpec.ofChange fnExactForecastSpec)

/-- ITS FALSE NEIGHBOUR: 'it returns false'. Refute it at one input. -/
def fnExactForecastWrong : ChangeSpec := { name := "fnExactForecast", fn := fun _ => fun
  | [d1, d2] => { results := [.lit (.bool false)], args := [d1, d2] }
  | _ => none }
def FnExactForecastWrongFalsely : Prop := fnExactForecastRow.holds Try.pinned (OpenSpec.ofChange fnExactForecastWrong)

/-- 'laws.FnExactLack': WHATEVER THE INPUT: true; the input reads as it did. -/
def fnExactLackSpec : ChangeSpec := { name := "fnExactLack", fn := fun _ => fun
  | [d1, d2, d3, d4] => { results := [.lit (.bool true)], args := [d1, d2, d3, d4] }
  | _ => none }
def fnExactLackRow : OpenClaim := { program := "ytmflajfddjnmhaa", sum := "46cbc19f9dc12f3187cdad5bc45ea93e011209d13070917b6a04d3a9ae50bb9b", func := "loop.example/g00264/laws.FnExactLack", spec := "fnExactLack", apart := false }
def FnExactLackSaid : Prop := fnExactLackRow.holds Try.pinned (OpenSpec.ofChange fnExactLackSpec)

/-- ITS FALSE NEIGHBOUR: 'it returns false'. Refute it at one input. -/
def fnExactLackWrong : ChangeSpec := { name := "fnExactLack", fn := fun _ => fun
  | [d1, d2, d3, d4] => { results := [.lit (.bool false)], args := [d1, d2, d3, d4] }
  | _ => none }
def FnExactLackWrongFalsely : Prop := fnExactLackRow.holds Try.pinned (OpenSpec.ofChange fnExactLackWrong)

/-- 'laws.FnExactSurplus': WHATEVER THE INPUT: true; the input reads as it did. -/
def fnExactSurplusSpec : ChangeSpec := { name := "fnExactSurplus", fn := fun _ => fun
  | [d1, d2, d3] => { results := [.lit (.bool true)], args := [d1, d2, d3] }
  | _ => none }
def fnExactSurplusRow : OpenClaim := { program := "ytmflajfddjnmhaa", sum := "46cbc19f9dc12f3187cdad5bc45ea93e011209d13070917b6a04d3a9ae50bb9b", func := "loop.example/g00264/laws.FnExactSurplus", spec := "fnExactSurplus", apart := false }
def FnExactSurplusSaid : Prop := fnExactSurplusRow.holds Try.pinned (OpenSpec.ofChange fnExactSurplusSpec)

/-- ITS FALSE NEIGHBOUR: 'it returns false'. Refute it at one input. -/
def fnExactSurplusWrong : ChangeSpec := { name := "fnExactSurplus", fn := fun _ => fun
  | [d1, d2, d3] => { results := [.lit (.bool false)], args := [d1, d2, d3] }
  | _ => none }
def FnExactSurplusWrongFalsely : Prop := fnExactSurplusRow.holds Try.pinned (OpenSpec.ofChange fnExactSurplusWrong)

/- THE SECOND FORM. 'bulk': how many values and letters a reading holds, each counted each time it is reached (what is shared counts as often as it is met; a slice's spare places count too). A statement '..UptoSaid' is the law's where the arguments, and the package variables that the reading takes, are together of bulk at most 1048576: NARROWER than '..Said'. Prove '..Said' where nothing that the law and all that it calls make is longer than what came in: it says more and counts as full. Else prove '..UptoSaid'. A law counts once. -/
mutual
def uptoBulk {H : Type} : DataW H → Nat
  | .lit (.string bytes) => bytes.length + 1
  | .lit _ => 1
  | .nil => 1
  | .ptr d => uptoBulk d + 1
  | .slice elems spare => uptoBulkAll elems + uptoBulkAll spare + 1
  | .agg parts => uptoBulkAll parts + 1
  | .iface _ d => uptoBulk d + 1
  | .map entries => uptoBulkEntries entries + 1
  | .held _ => 1
def uptoBulkAll {H : Type} : List (DataW H) → Nat
  | [] => 0
  | d :: r => uptoBulk d + uptoBulkAll r
def uptoBulkEntries {H : Type} : List (Lit × DataW H) → Nat
  | [] => 0
  | x :: r => uptoBulkEntry x + uptoBulkEntries r
def uptoBulkEntry {H : Type} : Lit × DataW H → Nat
  | (.string bytes, d) => bytes.length + uptoBulk d + 1
  | (_, d) => uptoBulk d + 1
 end
def uptoSmall : (H : Type) → List (DataW H) → Bool := fun _ ds => decide (uptoBulkAll ds ≤ 1048576)
def OpenSpec.upto (s : _root_.Go.ChangeSpec) : _root_.Go.OpenSpec := { _root_.Go.OpenSpec.ofChange s with cond := some uptoSmall }

/-- 'laws.FnDemand', WHERE WHAT IT READS IS OF BULK AT MOST 1048576: true; the input reads as it did. -/
def fnDemandUptoRow : OpenClaim := { program := "ytmflajfddjnmhaa", sum := "46cbc19f9dc12f3187cdad5bc45ea93e011209d13070917b6a04d3a9ae50bb9b", func := "loop.example/g00264/laws.FnDemand", spec := "fnDemand", apart := false, narrowed := true }
def FnDemandUptoSaid : Prop := fnDemandUptoRow.holds Try.pinned (OpenSpec.upto fnDemandSpec)

/-- 'laws.FnExactDemandOk', WHERE WHAT IT READS IS OF BULK AT MOST 1048576: true; the input reads as it did. -/
def fnExactDemandOkUptoRow : OpenClaim := { program := "ytmflajfddjnmhaa", sum := "46cbc19f9dc12f3187cdad5bc45ea93e011209d13070917b6a04d3a9ae50bb9b", func := "loop.example/g00264/laws.FnExactDemandOk", spec := "fnExactDemandOk", apart := false, narrowed := true }
def FnExactDemandOkUptoSaid : Prop := fnExactDemandOkUptoRow.holds Try.pinned (OpenSpec.upto fnExactDemandOkSpec)

/-- 'laws.FnExactDemandAsk', WHERE WHAT IT READS IS OF BULK AT MOST 1048576: true; the input reads as it did. -/
def fnExactDemandAskUptoRow : OpenClaim := { program := "ytmflajfddjnmhaa", sum := "46cbc19f9dc12f3187cdad5bc45ea93e011209d13070917b6a04d3a9ae50bb9b", func := "loop.example/g00264/laws.FnExactDemandAsk", spec := "fnExactDemandAsk", apart := false, narrowed := true }
def FnExactDemandAskUptoSaid : Prop := fnExactDemandAskUptoRow.holds Try.pinned (OpenSpec.upto fnExactDemandAskSpec)

/-- 'laws.FnExactDemandTick', WHERE WHAT IT READS IS OF BULK AT MOST 1048576: true; the input reads as it did. -/
def fnExactDemandTickUptoRow : OpenClaim := { program := "ytmflajfddjnmhaa", sum := "46cbc19f9dc12f3187cdad5bc45ea93e011209d13070917b6a04d3a9ae50bb9b", func := "loop.example/g00264/laws.FnExactDemandTick", spec := "fnExactDemandTick", apart := false, narrowed := true }
def FnExactDemandTickUptoSaid : Prop := fnExactDemandTickUptoRow.holds Try.pinned (OpenSpec.upto fnExactDemandTickSpec)

/-- 'laws.FnExactForecast', WHERE WHAT IT READS IS OF BULK AT MOST 1048576: true; the input reads as it did. -/
def fnExactForecastUptoRow : OpenClaim := { program := "ytmflajfddjnmhaa", sum := "46cbc19f9dc12f3187cdad5bc45ea93e011209d13070917b6a04d3a9ae50bb9b", func := "loop.example/g00264/laws.FnExactForecast", spec := "fnExactForecast", apart := false, narrowed := true }
def FnExactForecastUptoSaid : Prop := fnExactForecastUptoRow.holds Try.pinned (OpenSpec.upto fnExactForecastSpec)

/-- 'laws.FnExactLack', WHERE WHAT IT READS IS OF BULK AT MOST 1048576: true; the input reads as it did. -/
def fnExactLackUptoRow : OpenClaim := { program := "ytmflajfddjnmhaa", sum := "46cbc19f9dc12f3187cdad5bc45ea93e011209d13070917b6a04d3a9ae50bb9b", func := "loop.example/g00264/laws.FnExactLack", spec := "fnExactLack", apart := false, narrowed := true }
def FnExactLackUptoSaid : Prop := fnExactLackUptoRow.holds Try.pinned (OpenSpec.upto fnExactLackSpec)

/-- 'laws.FnExactSurplus', WHERE WHAT IT READS IS OF BULK AT MOST 1048576: true; the input reads as it did. -/
def fnExactSurplusUptoRow : OpenClaim := { program := "ytmflajfddjnmhaa", sum := "46cbc19f9dc12f3187cdad5bc45ea93e011209d13070917b6a04d3a9ae50bb9b", func := "loop.example/g00264/laws.FnExactSurplus", spec := "fnExactSurplus", apart := false, narrowed := true }
def FnExactSurplusUptoSaid : Prop := fnExactSurplusUptoRow.holds Try.pinned (OpenSpec.upto fnExactSurplusSpec)

end Rows
end Go.Proofs.Ytmflajfddjnmhaa
