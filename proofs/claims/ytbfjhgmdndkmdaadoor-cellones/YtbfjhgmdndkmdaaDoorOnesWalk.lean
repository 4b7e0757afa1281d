/-
  The walk of the statement on functions of one number.
-/
import Derived.Test.YtbfjhgmdndkmdaaDoorErr
import Derived.Test.YtbfjhgmdndkmdaaDoorRone
namespace Go.Proofs.YtbfjhgmdndkmdaaDoor
open Go.RowKit
set_option linter.unusedVariables false

set_option maxRecDepth 100000 in
set_option maxHeartbeats 1000000 in
theorem ones_walk (f a : Int) (ha : In64 a) (w : World) (hg : HasErr w) : Calls Tryd.prog 3 #[.int .i64 f, .int .i64 a] w fun e w' => e = .returned (.bool true) ∧ Below w.heap.size w w' := by
  have HG : Hid (HasErr w) := hg
  have HA : Hid (In64 a) := ha
  have hpp : (oneV f a == oneV f a) = true := by simp
  clear hg ha
  go_enter Tryd.func3, Tryd.ntmps3
  go_wp2_with fail
  refine (rone_any f a w).mono ?_
  rintro e w1 ⟨rfl, hw⟩
  obtain rfl : w = w1 := hw.symm
  go_wp2_with fail
  refine (one_any f a HA.out w).mono ?_
  rintro e w2 ⟨rfl, hw2⟩
  obtain rfl : w = w2 := hw2.symm
  go_wp2_with fail
  refine (error_same (oneE f a) w HG.out).mono ?_
  rintro e w3 ⟨rfl, hB⟩
  go_wp2_with fail
  go_ret
  exact ⟨rfl, hB⟩
end Go.Proofs.YtbfjhgmdndkmdaaDoor
