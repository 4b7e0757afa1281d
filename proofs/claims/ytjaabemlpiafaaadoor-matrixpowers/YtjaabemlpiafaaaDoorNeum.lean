/-
  Which number changes nothing, by function.
-/
import Derived.Test.YtjaabemlpiafaaaDoorBase
namespace Go.Proofs.YtjaabemlpiafaaaDoor
open Go.RowKit

def neutE (f : Int) : Int := if f < 1 ∨ 16 < f then 1 else if 8 ≤ f ∧ f ≤ 13 then 6 else 0
def neutV (f : Int) : Int := if f = 3 ∨ f = 4 ∨ f = 16 then 1 else if f = 6 then -9223372036854775808 else if f = 7 then 9223372036854775807 else if f = 14 then -1 else 0
theorem neutV_in (f : Int) : In64 (neutV f) := by
  unfold neutV
  repeat' split
  all_goals (unfold In64; decide)
theorem neutE_cases (f : Int) : neutE f = 0 ∨ neutE f = 1 ∨ neutE f = 6 := by
  unfold neutE
  repeat' split
  all_goals simp
end Go.Proofs.YtjaabemlpiafaaaDoor
