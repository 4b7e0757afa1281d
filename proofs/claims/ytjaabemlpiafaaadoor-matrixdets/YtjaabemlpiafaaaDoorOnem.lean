/-
  Plain mathematics of one number: what is told of it; nothing of the program.
-/
import Derived.Test.YtjaabemlpiafaaaDoorBase
namespace Go.Proofs.YtjaabemlpiafaaaDoor
open Go.RowKit
set_option linter.unusedVariables false

/-- The error of one number: 0: none. -/
def oneE (f a : Int) : Int := if f = 1 ∨ f = 2 ∨ f = 3 ∨ f = 5 then 0 else if f = 17 then (if a = 0 ∨ a = 1 then 0 else 6) else 1
def oneV (f a : Int) : Int := if f = 1 then a else if f = 2 then wrap64 (-a) else if f = 3 then (if a = 0 then 0 else if 0 < a then 1 else -1)
  else if f = 5 then (if 0 ≤ a then a else wrap64 (-a)) else if f = 17 then (if a = 0 then 1 else 0) else 0
end Go.Proofs.YtjaabemlpiafaaaDoor
