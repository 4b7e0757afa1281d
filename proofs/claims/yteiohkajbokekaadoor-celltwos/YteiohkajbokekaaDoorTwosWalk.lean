/-
  The walk of the statement on functions of two numbers.
-/
import Derived.Test.YteiohkajbokekaaDoorErr
import Derived.Test.YteiohkajbokekaaDoorRtwo
import Derived.Test.YteiohkajbokekaaDoorTwos
namespace Go.Proofs.YteiohkajbokekaaDoor
open Go.RowKit
set_option linter.unusedVariables false

set_option maxRecDepth 100000 in
set_option maxHeartbeats 1000000 in
theorem twos_walk (f a b : Int) (ha : In64 a) (hb : In64 b) (w : World) (hg : HasErr w) : Calls Tryd.prog 3 #[.int .i64 f, .int .i64 a, .int .i64 b] w fun e w' => e = .returned (.bool true) ∧ Below w.heap.size w w' := by
  have HG : Hid (HasErr w) := hg
  have HA : Hid (In64 a ∧ In64 b) := ⟨ha, hb⟩
  have hpp : (twoV f a b == twoV f a b) = true := by simp
  clear hg ha hb
  go_enter Tryd.func3, Tryd.ntmps3
  go_wp2_with fail
  refine (rtwo_any f a b HA.out.1 HA.out.2 w).mono ?_
  rintro e w1 ⟨rfl, hw⟩
  obtain rfl : w = w1 := hw.symm
  go_wp2_with fail
  refine (two_any f a b HA.out.1 HA.out.2 w).mono ?_
  rintro e w2 ⟨rfl, hB2⟩
  go_wp2_with fail
  refine (error_same (twoE f a b) w2 (HG.out.below hB2 HG.out.pos)).mono ?_
  rintro e w3 ⟨rfl, hB3⟩
  go_wp2_with fail
  go_ret
  exact ⟨rfl, hB2.trans (hB3.mono hB2.size)⟩
end Go.Proofs.YteiohkajbokekaaDoor
