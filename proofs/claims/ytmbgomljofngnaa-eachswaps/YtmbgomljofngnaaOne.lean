/-
  What the program tells of one number: One.
-/
import Derived.Test.YtmbgomljofngnaaTwo
import Derived.Test.YtmbgomljofngnaaOnem
namespace Go.Proofs.Ytmbgomljofngnaa
open Go.RowKit
set_option linter.unusedVariables false

theorem ifV_sign (a : Int) : ifV (decide (0 < a)) - ifV (decide (a < 0)) = if a = 0 then 0 else if 0 < a then 1 else -1 := by
  unfold ifV
  by_cases h1 : 0 < a
  · have h2 : ¬ a < 0 := by omega
    have h3 : ¬ a = 0 := by omega
    simp [h1, h2, h3]
  · by_cases h2 : a < 0
    · have h3 : ¬ a = 0 := by omega
      simp [h1, h2, h3]
    · have h3 : a = 0 := by omega
      simp [h3]
set_option maxRecDepth 100000 in
set_option maxHeartbeats 1000000 in
theorem one_1 (a : Int) (w : World) : Calls Try.prog 34 #[.int .i64 1, .int .i64 a] w fun e w' => e = .returned (.tuple #[.int .i64 (oneV 1 a), errV (oneE 1 a)]) ∧ w' = w := by
  go_enter Try.func34, Try.ntmps34
  go_wp2_with fail
  go_ret2
  exact ⟨ret2 (by simp [oneV]) (by simp [oneE, errV]), rfl⟩
set_option maxRecDepth 100000 in
set_option maxHeartbeats 1000000 in
theorem one_2 (a : Int) (w : World) : Calls Try.prog 34 #[.int .i64 2, .int .i64 a] w fun e w' => e = .returned (.tuple #[.int .i64 (oneV 2 a), errV (oneE 2 a)]) ∧ w' = w := by
  go_enter Try.func34, Try.ntmps34
  go_wp2_with fail
  go_ret2
  exact ⟨ret2 (by simp [oneV]) (by simp [oneE, errV]), rfl⟩
set_option maxRecDepth 100000 in
set_option maxHeartbeats 1000000 in
theorem one_3 (a : Int) (w : World) : Calls Try.prog 34 #[.int .i64 3, .int .i64 a] w fun e w' => e = .returned (.tuple #[.int .i64 (oneV 3 a), errV (oneE 3 a)]) ∧ w' = w := by
  have HS : Hid (wrap64 (ifV (decide (0 < a)) - ifV (decide (a < 0))) = if a = 0 then 0 else if 0 < a then 1 else -1) := by
    show _ = _
    rw [ifV_sign]
    refine w_small ?_ ?_ <;> (split; · decide
                              split <;> decide)
  go_enter Try.func34, Try.ntmps34
  go_wp2_with fail
  refine (one_if (decide (0 < a)) w).mono ?_
  rintro e w1 ⟨rfl, rfl⟩
  go_wp2_with fail
  refine (one_if (decide (a < 0)) w1).mono ?_
  rintro e w2 ⟨rfl, rfl⟩
  go_wp2_with fail
  go_ret2
  exact ⟨ret2 (by rw [HS.out]; simp [oneV]) (by simp [oneE, errV]), rfl⟩
set_option maxRecDepth 100000 in
set_option maxHeartbeats 1000000 in
theorem one_5 (a : Int) (ha : In64 a) (w : World) : Calls Try.prog 34 #[.int .i64 5, .int .i64 a] w fun e w' => e = .returned (.tuple #[.int .i64 (oneV 5 a), errV (oneE 5 a)]) ∧ w' = w := by
  have HA : Hid (In64 a) := ha
  clear ha
  go_enter Try.func34, Try.ntmps34
  go_wp2_with fail
  all_goals (go_ret2; have ha := HA.out; exact ⟨ret2 (by unfold oneV In64 at *; simp only [wrap64] at *; grind) (by simp [oneE, errV]), rfl⟩)
set_option maxHeartbeats 1000000 in
theorem not_any (a : Int) (w : World) : Calls Try.prog 56 #[.int .i64 a] w fun e w' => e = .returned (.tuple #[.int .i64 (oneV 17 a), errV (oneE 17 a)]) ∧ w' = w := by
  by_cases h0 : a = 0
  · subst h0
    go_enter Try.func56, Try.ntmps56
    go_wp2_with fail
    go_ret2
    exact ⟨ret2 (by simp [oneV]) (by simp [oneE, errV]), rfl⟩
  · by_cases h1 : a = 1
    · subst h1
      go_enter Try.func56, Try.ntmps56
      go_wp2_with fail
      go_ret2
      exact ⟨ret2 (by simp [oneV]) (by simp [oneE, errV]), rfl⟩
    · have HN : Hid (a ≠ 0 ∧ a ≠ 1) := ⟨h0, h1⟩
      have t0 : (a != 0) = true := by simp [h0]
      have t1 : (a != 1) = true := by simp [h1]
      clear h0 h1
      go_enter Try.func56, Try.ntmps56
      go_wp2_with fail
      go_ret2
      have h := HN.out
      exact ⟨ret2 (by simp [oneV, h.1]) (by simp [oneE, errV, h.1, h.2]), rfl⟩
set_option maxRecDepth 100000 in
set_option maxHeartbeats 1000000 in
theorem one_17 (a : Int) (w : World) : Calls Try.prog 34 #[.int .i64 17, .int .i64 a] w fun e w' => e = .returned (.tuple #[.int .i64 (oneV 17 a), errV (oneE 17 a)]) ∧ w' = w := by
  go_enter Try.func34, Try.ntmps34
  go_wp2_with fail
  refine (not_any a w).mono ?_
  rintro e w1 ⟨rfl, hw⟩
  subst hw
  go_wp2_with fail
  go_ret2
  exact ⟨rfl, rfl⟩
set_option maxRecDepth 100000 in
set_option maxHeartbeats 1000000 in
theorem one_other (f a : Int) (hf : f ≠ 1 ∧ f ≠ 2 ∧ f ≠ 3 ∧ f ≠ 5 ∧ f ≠ 17) (w : World) : Calls Try.prog 34 #[.int .i64 f, .int .i64 a] w fun e w' => e = .returned (.tuple #[.int .i64 (oneV f a), errV (oneE f a)]) ∧ w' = w := by
  have HF : Hid (f ≠ 1 ∧ f ≠ 2 ∧ f ≠ 3 ∧ f ≠ 5 ∧ f ≠ 17) := hf
  have n1 : (f == 1) = false := by simp; omega
  have n2 : (f == 2) = false := by simp; omega
  have n3 : (f == 3) = false := by simp; omega
  have n5 : (f == 5) = false := by simp; omega
  have n17 : (f == 17) = false := by simp; omega
  clear hf
  go_enter Try.func34, Try.ntmps34
  go_wp2_with fail
  go_ret2
  obtain ⟨h1, h2, h3, h5, h17⟩ := HF.out
  exact ⟨ret2 (by simp [oneV, h1, h2, h3, h5, h17]) (by simp [oneE, errV, h1, h2, h3, h5, h17]), rfl⟩
theorem one_any (f a : Int) (ha : In64 a) (w : World) : Calls Try.prog 34 #[.int .i64 f, .int .i64 a] w fun e w' => e = .returned (.tuple #[.int .i64 (oneV f a), errV (oneE f a)]) ∧ w' = w := by
  by_cases hf : f ≠ 1 ∧ f ≠ 2 ∧ f ≠ 3 ∧ f ≠ 5 ∧ f ≠ 17
  · exact one_other f a hf w
  · rcases (by omega : f = 1 ∨ f = 2 ∨ f = 3 ∨ f = 5 ∨ f = 17) with rfl | rfl | rfl | rfl | rfl
    · exact one_1 a w
    · exact one_2 a w
    · exact one_3 a w
    · exact one_5 a ha w
    · exact one_17 a w
end Go.Proofs.Ytmbgomljofngnaa
