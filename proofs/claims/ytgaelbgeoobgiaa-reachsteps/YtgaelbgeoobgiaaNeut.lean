/-
  What the program tells of the number that changes nothing: Neutral.
-/
import Derived.Test.YtgaelbgeoobgiaaBase
import Derived.Test.YtgaelbgeoobgiaaPrdm
namespace Go.Proofs.Ytgaelbgeoobgiaa
open Go.RowKit
set_option linter.unusedVariables false

set_option maxRecDepth 100000 in
set_option maxHeartbeats 1000000 in
theorem neut_1 (w : World) : Calls Try.prog 25 #[.int .i64 1] w fun e w' => e = .returned (.tuple #[.int .i64 (neutV 1), errV (neutE 1)]) ∧ w' = w := by
  go_enter Try.func25, Try.ntmps25
  go_wp2_with fail
  go_ret2
  exact ⟨ret2 (by decide) rfl, rfl⟩
set_option maxRecDepth 100000 in
set_option maxHeartbeats 1000000 in
theorem neut_2 (w : World) : Calls Try.prog 25 #[.int .i64 2] w fun e w' => e = .returned (.tuple #[.int .i64 (neutV 2), errV (neutE 2)]) ∧ w' = w := by
  go_enter Try.func25, Try.ntmps25
  go_wp2_with fail
  go_ret2
  exact ⟨ret2 (by decide) rfl, rfl⟩
set_option maxRecDepth 100000 in
set_option maxHeartbeats 1000000 in
theorem neut_3 (w : World) : Calls Try.prog 25 #[.int .i64 3] w fun e w' => e = .returned (.tuple #[.int .i64 (neutV 3), errV (neutE 3)]) ∧ w' = w := by
  go_enter Try.func25, Try.ntmps25
  go_wp2_with fail
  go_ret2
  exact ⟨ret2 (by decide) rfl, rfl⟩
set_option maxRecDepth 100000 in
set_option maxHeartbeats 1000000 in
theorem neut_4 (w : World) : Calls Try.prog 25 #[.int .i64 4] w fun e w' => e = .returned (.tuple #[.int .i64 (neutV 4), errV (neutE 4)]) ∧ w' = w := by
  go_enter Try.func25, Try.ntmps25
  go_wp2_with fail
  go_ret2
  exact ⟨ret2 (by decide) rfl, rfl⟩
set_option maxRecDepth 100000 in
set_option maxHeartbeats 1000000 in
theorem neut_5 (w : World) : Calls Try.prog 25 #[.int .i64 5] w fun e w' => e = .returned (.tuple #[.int .i64 (neutV 5), errV (neutE 5)]) ∧ w' = w := by
  go_enter Try.func25, Try.ntmps25
  go_wp2_with fail
  go_ret2
  exact ⟨ret2 (by decide) rfl, rfl⟩
set_option maxRecDepth 100000 in
set_option maxHeartbeats 1000000 in
theorem neut_6 (w : World) : Calls Try.prog 25 #[.int .i64 6] w fun e w' => e = .returned (.tuple #[.int .i64 (neutV 6), errV (neutE 6)]) ∧ w' = w := by
  go_enter Try.func25, Try.ntmps25
  go_wp2_with fail
  go_ret2
  exact ⟨ret2 (by decide) rfl, rfl⟩
set_option maxRecDepth 100000 in
set_option maxHeartbeats 1000000 in
theorem neut_7 (w : World) : Calls Try.prog 25 #[.int .i64 7] w fun e w' => e = .returned (.tuple #[.int .i64 (neutV 7), errV (neutE 7)]) ∧ w' = w := by
  go_enter Try.func25, Try.ntmps25
  go_wp2_with fail
  go_ret2
  exact ⟨ret2 (by decide) rfl, rfl⟩
set_option maxRecDepth 100000 in
set_option maxHeartbeats 1000000 in
theorem neut_8 (w : World) : Calls Try.prog 25 #[.int .i64 8] w fun e w' => e = .returned (.tuple #[.int .i64 (neutV 8), errV (neutE 8)]) ∧ w' = w := by
  go_enter Try.func25, Try.ntmps25
  go_wp2_with fail
  go_ret2
  exact ⟨ret2 (by decide) rfl, rfl⟩
set_option maxRecDepth 100000 in
set_option maxHeartbeats 1000000 in
theorem neut_9 (w : World) : Calls Try.prog 25 #[.int .i64 9] w fun e w' => e = .returned (.tuple #[.int .i64 (neutV 9), errV (neutE 9)]) ∧ w' = w := by
  go_enter Try.func25, Try.ntmps25
  go_wp2_with fail
  go_ret2
  exact ⟨ret2 (by decide) rfl, rfl⟩
set_option maxRecDepth 100000 in
set_option maxHeartbeats 1000000 in
theorem neut_10 (w : World) : Calls Try.prog 25 #[.int .i64 10] w fun e w' => e = .returned (.tuple #[.int .i64 (neutV 10), errV (neutE 10)]) ∧ w' = w := by
  go_enter Try.func25, Try.ntmps25
  go_wp2_with fail
  go_ret2
  exact ⟨ret2 (by decide) rfl, rfl⟩
set_option maxRecDepth 100000 in
set_option maxHeartbeats 1000000 in
theorem neut_11 (w : World) : Calls Try.prog 25 #[.int .i64 11] w fun e w' => e = .returned (.tuple #[.int .i64 (neutV 11), errV (neutE 11)]) ∧ w' = w := by
  go_enter Try.func25, Try.ntmps25
  go_wp2_with fail
  go_ret2
  exact ⟨ret2 (by decide) rfl, rfl⟩
set_option maxRecDepth 100000 in
set_option maxHeartbeats 1000000 in
theorem neut_12 (w : World) : Calls Try.prog 25 #[.int .i64 12] w fun e w' => e = .returned (.tuple #[.int .i64 (neutV 12), errV (neutE 12)]) ∧ w' = w := by
  go_enter Try.func25, Try.ntmps25
  go_wp2_with fail
  go_ret2
  exact ⟨ret2 (by decide) rfl, rfl⟩
set_option maxRecDepth 100000 in
set_option maxHeartbeats 1000000 in
theorem neut_13 (w : World) : Calls Try.prog 25 #[.int .i64 13] w fun e w' => e = .returned (.tuple #[.int .i64 (neutV 13), errV (neutE 13)]) ∧ w' = w := by
  go_enter Try.func25, Try.ntmps25
  go_wp2_with fail
  go_ret2
  exact ⟨ret2 (by decide) rfl, rfl⟩
set_option maxRecDepth 100000 in
set_option maxHeartbeats 1000000 in
theorem neut_14 (w : World) : Calls Try.prog 25 #[.int .i64 14] w fun e w' => e = .returned (.tuple #[.int .i64 (neutV 14), errV (neutE 14)]) ∧ w' = w := by
  go_enter Try.func25, Try.ntmps25
  go_wp2_with fail
  go_ret2
  exact ⟨ret2 (by decide) rfl, rfl⟩
set_option maxRecDepth 100000 in
set_option maxHeartbeats 1000000 in
theorem neut_15 (w : World) : Calls Try.prog 25 #[.int .i64 15] w fun e w' => e = .returned (.tuple #[.int .i64 (neutV 15), errV (neutE 15)]) ∧ w' = w := by
  go_enter Try.func25, Try.ntmps25
  go_wp2_with fail
  go_ret2
  exact ⟨ret2 (by decide) rfl, rfl⟩
set_option maxRecDepth 100000 in
set_option maxHeartbeats 1000000 in
theorem neut_16 (w : World) : Calls Try.prog 25 #[.int .i64 16] w fun e w' => e = .returned (.tuple #[.int .i64 (neutV 16), errV (neutE 16)]) ∧ w' = w := by
  go_enter Try.func25, Try.ntmps25
  go_wp2_with fail
  go_ret2
  exact ⟨ret2 (by decide) rfl, rfl⟩
set_option maxRecDepth 100000 in
set_option maxHeartbeats 1000000 in
theorem neut_other (f : Int) (hf : f < 1 ∨ 16 < f) (w : World) : Calls Try.prog 25 #[.int .i64 f] w fun e w' => e = .returned (.tuple #[.int .i64 (neutV f), errV (neutE f)]) ∧ w' = w := by
  have HF : Hid (f < 1 ∨ 16 < f) := hf
  have n1 : (f == 1) = false := by simp; omega
  have n2 : (f == 2) = false := by simp; omega
  have n3 : (f == 3) = false := by simp; omega
  have n4 : (f == 4) = false := by simp; omega
  have n5 : (f == 5) = false := by simp; omega
  have n6 : (f == 6) = false := by simp; omega
  have n7 : (f == 7) = false := by simp; omega
  have n8 : (f == 8) = false := by simp; omega
  have n9 : (f == 9) = false := by simp; omega
  have n10 : (f == 10) = false := by simp; omega
  have n11 : (f == 11) = false := by simp; omega
  have n12 : (f == 12) = false := by simp; omega
  have n13 : (f == 13) = false := by simp; omega
  have n14 : (f == 14) = false := by simp; omega
  have n15 : (f == 15) = false := by simp; omega
  have n16 : (f == 16) = false := by simp; omega
  clear hf
  go_enter Try.func25, Try.ntmps25
  go_wp2_with fail
  go_ret2
  have hf := HF.out
  refine ⟨ret2 ?_ (by simp [neutE, errV, hf]), rfl⟩
  unfold neutV
  repeat rw [if_neg (by omega)]
theorem neut_any (f : Int) (w : World) : Calls Try.prog 25 #[.int .i64 f] w fun e w' => e = .returned (.tuple #[.int .i64 (neutV f), errV (neutE f)]) ∧ w' = w := by
  by_cases hf : f < 1 ∨ 16 < f
  · exact neut_other f hf w
  · rcases (by omega : f = 1 ∨ f = 2 ∨ f = 3 ∨ f = 4 ∨ f = 5 ∨ f = 6 ∨ f = 7 ∨ f = 8 ∨ f = 9 ∨ f = 10 ∨ f = 11 ∨ f = 12 ∨ f = 13 ∨ f = 14 ∨ f = 15 ∨ f = 16) with rfl | rfl | rfl | rfl | rfl | rfl | rfl | rfl | rfl | rfl | rfl | rfl | rfl | rfl | rfl | rfl
    · exact neut_1 w
    · exact neut_2 w
    · exact neut_3 w
    · exact neut_4 w
    · exact neut_5 w
    · exact neut_6 w
    · exact neut_7 w
    · exact neut_8 w
    · exact neut_9 w
    · exact neut_10 w
    · exact neut_11 w
    · exact neut_12 w
    · exact neut_13 w
    · exact neut_14 w
    · exact neut_15 w
    · exact neut_16 w
end Go.Proofs.Ytgaelbgeoobgiaa
