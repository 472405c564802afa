/-
  Operations in plain terms: what one is, when it is right.
-/
import Derived.Test.YtiinpdkgnflmeaaDoorMgMath
namespace Go.Proofs.YtiinpdkgnflmeaaDoor
open Go.RowKit
open Mth

namespace Mth
/-- An operation: kind, number, key, amount, message. -/
structure Op5 where
  K : Int
  no : Int
  k : ByteArray
  n : Int
  m : Mg
def zmB (m : Mg) : Bool := decide (m.K = 0 ∧ m.F = 0 ∧ m.T = 0 ∧ m.I = 0 ∧ m.L = 0 ∧ m.k.toList = [] ∧ m.N = 0)
def opOk (o : Op5) : Bool :=
  if o.K = 0 ∨ o.K = 3 ∨ o.K = 4 then keyOk o.k.data.toList && smB o.n && decide (o.no = 0) && zmB o.m
  else if o.K = 1 then keyOk o.k.data.toList && smB o.n && smB o.no && zmB o.m
  else if o.K = 2 then decide (o.k.toList = []) && decide (o.n = 0) && smB o.no && zmB o.m
  else if o.K = 5 then decide (o.k.toList = []) && decide (o.n = 0) && decide (o.no = 0) && zmB o.m
  else if o.K = 6 then decide (o.k.toList = []) && decide (o.n = 0) && decide (o.no = 0) && mgOk o.m
  else false
end Mth
abbrev opw (o : Op5) : Value := .agg #[.int .i64 o.K, .int .i64 o.no, .string o.k, .int .i64 o.n, .int .i64 o.m.K, .int .i64 o.m.F, .int .i64 o.m.T, .int .i64 o.m.I, .int .i64 o.m.L, .string o.m.k, .int .i64 o.m.N]
end Go.Proofs.YtiinpdkgnflmeaaDoor
