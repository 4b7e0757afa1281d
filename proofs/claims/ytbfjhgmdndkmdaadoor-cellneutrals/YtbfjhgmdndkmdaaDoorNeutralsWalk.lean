/-
  The walk of the statement on the neutral numbers.
-/
import Derived.Test.YtbfjhgmdndkmdaaDoorErr
import Derived.Test.YtbfjhgmdndkmdaaDoorRneut
namespace Go.Proofs.YtbfjhgmdndkmdaaDoor
open Go.RowKit
set_option linter.unusedVariables false

theorem neut_14' (w : World) : Calls Tryd.prog 14 #[.int .i64 14] w fun e w' => e = .returned (.tuple #[.int .i64 (-1), .nilIface]) ∧ w' = w := neut_14 w
set_option maxRecDepth 100000 in
set_option maxHeartbeats 1000000 in
theorem neutrals_walk (f : Int) (w : World) (hg : HasErr w) : Calls Tryd.prog 5 #[.int .i64 f] w fun e w' => e = .returned (.bool true) ∧ Below w.heap.size w w' := by
  have HG : Hid (HasErr w) := hg
  have hpp : (neutV f == neutV f) = true := by simp
  clear hg
  go_enter Tryd.func5, Tryd.ntmps5
  go_wp2_with fail
  refine (rneut_any f w).mono ?_
  rintro e w1 ⟨rfl, hw⟩
  obtain rfl : w = w1 := hw.symm
  go_wp2_with fail
  refine (neut_any f w).mono ?_
  rintro e w2 ⟨rfl, hw2⟩
  obtain rfl : w = w2 := hw2.symm
  go_wp2_with fail
  refine (error_same (neutE f) w HG.out).mono ?_
  rintro e w3 ⟨rfl, hB⟩
  go_wp2_with fail
  refine (neut_14' w3).mono ?_
  rintro e w4 ⟨rfl, hw4⟩
  obtain rfl : w3 = w4 := hw4.symm
  go_wp2_with fail
  go_ret
  exact ⟨rfl, hB⟩
end Go.Proofs.YtbfjhgmdndkmdaaDoor
