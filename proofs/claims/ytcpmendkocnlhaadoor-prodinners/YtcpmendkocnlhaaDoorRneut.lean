/-
  What the reference tells of the number that changes nothing.
-/
import Derived.Test.YtcpmendkocnlhaaDoorNeut
import Derived.Test.YtcpmendkocnlhaaDoorRtwo
namespace Go.Proofs.YtcpmendkocnlhaaDoor
open Go.RowKit
set_option linter.unusedVariables false

set_option maxRecDepth 100000 in
set_option maxHeartbeats 1000000 in
theorem rneut_1 (w : World) : Calls Tryd.prog 26 #[.int .i64 1] w fun e w' => e = .returned (.tuple #[.int .i64 (neutV 1), .int .i64 (neutE 1)]) ∧ w' = w := by
  go_enter Tryd.func26, Tryd.ntmps26
  go_wp2_with fail
  go_ret2
  exact ⟨ret2i (by decide) (by decide), rfl⟩
set_option maxRecDepth 100000 in
set_option maxHeartbeats 1000000 in
theorem rneut_2 (w : World) : Calls Tryd.prog 26 #[.int .i64 2] w fun e w' => e = .returned (.tuple #[.int .i64 (neutV 2), .int .i64 (neutE 2)]) ∧ w' = w := by
  go_enter Tryd.func26, Tryd.ntmps26
  go_wp2_with fail
  go_ret2
  exact ⟨ret2i (by decide) (by decide), rfl⟩
set_option maxRecDepth 100000 in
set_option maxHeartbeats 1000000 in
theorem rneut_3 (w : World) : Calls Tryd.prog 26 #[.int .i64 3] w fun e w' => e = .returned (.tuple #[.int .i64 (neutV 3), .int .i64 (neutE 3)]) ∧ w' = w := by
  go_enter Tryd.func26, Tryd.ntmps26
  go_wp2_with fail
  go_ret2
  exact ⟨ret2i (by decide) (by decide), rfl⟩
set_option maxRecDepth 100000 in
set_option maxHeartbeats 1000000 in
theorem rneut_4 (w : World) : Calls Tryd.prog 26 #[.int .i64 4] w fun e w' => e = .returned (.tuple #[.int .i64 (neutV 4), .int .i64 (neutE 4)]) ∧ w' = w := by
  go_enter Tryd.func26, Tryd.ntmps26
  go_wp2_with fail
  go_ret2
  exact ⟨ret2i (by decide) (by decide), rfl⟩
set_option maxRecDepth 100000 in
set_option maxHeartbeats 1000000 in
theorem rneut_5 (w : World) : Calls Tryd.prog 26 #[.int .i64 5] w fun e w' => e = .returned (.tuple #[.int .i64 (neutV 5), .int .i64 (neutE 5)]) ∧ w' = w := by
  go_enter Tryd.func26, Tryd.ntmps26
  go_wp2_with fail
  go_ret2
  exact ⟨ret2i (by decide) (by decide), rfl⟩
set_option maxRecDepth 100000 in
set_option maxHeartbeats 1000000 in
theorem rneut_6 (w : World) : Calls Tryd.prog 26 #[.int .i64 6] w fun e w' => e = .returned (.tuple #[.int .i64 (neutV 6), .int .i64 (neutE 6)]) ∧ w' = w := by
  go_enter Tryd.func26, Tryd.ntmps26
  go_wp2_with fail
  go_ret2
  exact ⟨ret2i (by decide) (by decide), rfl⟩
set_option maxRecDepth 100000 in
set_option maxHeartbeats 1000000 in
theorem rneut_7 (w : World) : Calls Tryd.prog 26 #[.int .i64 7] w fun e w' => e = .returned (.tuple #[.int .i64 (neutV 7), .int .i64 (neutE 7)]) ∧ w' = w := by
  go_enter Tryd.func26, Tryd.ntmps26
  go_wp2_with fail
  go_ret2
  exact ⟨ret2i (by decide) (by decide), rfl⟩
set_option maxRecDepth 100000 in
set_option maxHeartbeats 1000000 in
theorem rneut_8 (w : World) : Calls Tryd.prog 26 #[.int .i64 8] w fun e w' => e = .returned (.tuple #[.int .i64 (neutV 8), .int .i64 (neutE 8)]) ∧ w' = w := by
  go_enter Tryd.func26, Tryd.ntmps26
  go_wp2_with fail
  go_ret2
  exact ⟨ret2i (by decide) (by decide), rfl⟩
set_option maxRecDepth 100000 in
set_option maxHeartbeats 1000000 in
theorem rneut_9 (w : World) : Calls Tryd.prog 26 #[.int .i64 9] w fun e w' => e = .returned (.tuple #[.int .i64 (neutV 9), .int .i64 (neutE 9)]) ∧ w' = w := by
  go_enter Tryd.func26, Tryd.ntmps26
  go_wp2_with fail
  go_ret2
  exact ⟨ret2i (by decide) (by decide), rfl⟩
set_option maxRecDepth 100000 in
set_option maxHeartbeats 1000000 in
theorem rneut_10 (w : World) : Calls Tryd.prog 26 #[.int .i64 10] w fun e w' => e = .returned (.tuple #[.int .i64 (neutV 10), .int .i64 (neutE 10)]) ∧ w' = w := by
  go_enter Tryd.func26, Tryd.ntmps26
  go_wp2_with fail
  go_ret2
  exact ⟨ret2i (by decide) (by decide), rfl⟩
set_option maxRecDepth 100000 in
set_option maxHeartbeats 1000000 in
theorem rneut_11 (w : World) : Calls Tryd.prog 26 #[.int .i64 11] w fun e w' => e = .returned (.tuple #[.int .i64 (neutV 11), .int .i64 (neutE 11)]) ∧ w' = w := by
  go_enter Tryd.func26, Tryd.ntmps26
  go_wp2_with fail
  go_ret2
  exact ⟨ret2i (by decide) (by decide), rfl⟩
set_option maxRecDepth 100000 in
set_option maxHeartbeats 1000000 in
theorem rneut_12 (w : World) : Calls Tryd.prog 26 #[.int .i64 12] w fun e w' => e = .returned (.tuple #[.int .i64 (neutV 12), .int .i64 (neutE 12)]) ∧ w' = w := by
  go_enter Tryd.func26, Tryd.ntmps26
  go_wp2_with fail
  go_ret2
  exact ⟨ret2i (by decide) (by decide), rfl⟩
set_option maxRecDepth 100000 in
set_option maxHeartbeats 1000000 in
theorem rneut_13 (w : World) : Calls Tryd.prog 26 #[.int .i64 13] w fun e w' => e = .returned (.tuple #[.int .i64 (neutV 13), .int .i64 (neutE 13)]) ∧ w' = w := by
  go_enter Tryd.func26, Tryd.ntmps26
  go_wp2_with fail
  go_ret2
  exact ⟨ret2i (by decide) (by decide), rfl⟩
set_option maxRecDepth 100000 in
set_option maxHeartbeats 1000000 in
theorem rneut_14 (w : World) : Calls Tryd.prog 26 #[.int .i64 14] w fun e w' => e = .returned (.tuple #[.int .i64 (neutV 14), .int .i64 (neutE 14)]) ∧ w' = w := by
  go_enter Tryd.func26, Tryd.ntmps26
  go_wp2_with fail
  go_ret2
  exact ⟨ret2i (by decide) (by decide), rfl⟩
set_option maxRecDepth 100000 in
set_option maxHeartbeats 1000000 in
theorem rneut_15 (w : World) : Calls Tryd.prog 26 #[.int .i64 15] w fun e w' => e = .returned (.tuple #[.int .i64 (neutV 15), .int .i64 (neutE 15)]) ∧ w' = w := by
  go_enter Tryd.func26, Tryd.ntmps26
  go_wp2_with fail
  go_ret2
  exact ⟨ret2i (by decide) (by decide), rfl⟩
set_option maxRecDepth 100000 in
set_option maxHeartbeats 1000000 in
theorem rneut_16 (w : World) : Calls Tryd.prog 26 #[.int .i64 16] w fun e w' => e = .returned (.tuple #[.int .i64 (neutV 16), .int .i64 (neutE 16)]) ∧ w' = w := by
  go_enter Tryd.func26, Tryd.ntmps26
  go_wp2_with fail
  go_ret2
  exact ⟨ret2i (by decide) (by decide), rfl⟩
set_option maxRecDepth 100000 in
set_option maxHeartbeats 1000000 in
theorem rneut_other (f : Int) (hf : f < 1 ∨ 16 < f) (w : World) : Calls Tryd.prog 26 #[.int .i64 f] w fun e w' => e = .returned (.tuple #[.int .i64 (neutV f), .int .i64 (neutE f)]) ∧ w' = w := by
  have HV : Hid (neutV f = 0 ∧ neutE f = 1) := by
    refine ⟨?_, by simp [neutE, hf]⟩
    unfold neutV
    repeat rw [if_neg (by omega)]
  by_cases h1 : f < 1
  · have t1 : decide (f < 1) = true := by simp [h1]
    clear h1 hf
    go_enter Tryd.func26, Tryd.ntmps26
    go_wp2_with fail
    go_ret2
    exact ⟨ret2i HV.out.1.symm HV.out.2.symm, rfl⟩
  · have t1 : decide (f < 1) = false := by simp [h1]
    have t2 : decide (16 < f) = true := by simp; omega
    clear h1 hf
    go_enter Tryd.func26, Tryd.ntmps26
    go_wp2_with fail
    go_ret2
    exact ⟨ret2i HV.out.1.symm HV.out.2.symm, rfl⟩
theorem rneut_any (f : Int) (w : World) : Calls Tryd.prog 26 #[.int .i64 f] w fun e w' => e = .returned (.tuple #[.int .i64 (neutV f), .int .i64 (neutE f)]) ∧ w' = w := by
  by_cases hf : f < 1 ∨ 16 < f
  · exact rneut_other f hf w
  · rcases (by omega : f = 1 ∨ f = 2 ∨ f = 3 ∨ f = 4 ∨ f = 5 ∨ f = 6 ∨ f = 7 ∨ f = 8 ∨ f = 9 ∨ f = 10 ∨ f = 11 ∨ f = 12 ∨ f = 13 ∨ f = 14 ∨ f = 15 ∨ f = 16) with rfl | rfl | rfl | rfl | rfl | rfl | rfl | rfl | rfl | rfl | rfl | rfl | rfl | rfl | rfl | rfl
    · exact rneut_1 w
    · exact rneut_2 w
    · exact rneut_3 w
    · exact rneut_4 w
    · exact rneut_5 w
    · exact rneut_6 w
    · exact rneut_7 w
    · exact rneut_8 w
    · exact rneut_9 w
    · exact rneut_10 w
    · exact rneut_11 w
    · exact rneut_12 w
    · exact rneut_13 w
    · exact rneut_14 w
    · exact rneut_15 w
    · exact rneut_16 w
end Go.Proofs.YtcpmendkocnlhaaDoor
