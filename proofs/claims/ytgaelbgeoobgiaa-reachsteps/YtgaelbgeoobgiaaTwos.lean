/-
  What the program tells of two numbers, whatever the function: Two.
-/
import Derived.Test.YtgaelbgeoobgiaaTwo
namespace Go.Proofs.Ytgaelbgeoobgiaa
open Go.RowKit
set_option linter.unusedVariables false

set_option maxRecDepth 100000 in
set_option maxHeartbeats 1000000 in
theorem two_1 (a b : Int) (w : World) : Calls Try.prog 30 #[.int .i64 1, .int .i64 a, .int .i64 b] w fun e w' => e = .returned (.tuple #[.int .i64 (twoV 1 a b), errV (twoE 1 a b)]) ∧ Below w.heap.size w w' := by
  go_enter Try.func30, Try.ntmps30
  go_wp2_with fail
  go_ret2
  exact ⟨ret2 (tv1 a b).symm (by rw [te0 (by decide) (by decide) (fun h => absurd h (by decide)) (fun h => absurd h (by decide))]; rfl), Below.refl _ _⟩
set_option maxRecDepth 100000 in
set_option maxHeartbeats 1000000 in
theorem two_2 (a b : Int) (w : World) : Calls Try.prog 30 #[.int .i64 2, .int .i64 a, .int .i64 b] w fun e w' => e = .returned (.tuple #[.int .i64 (twoV 2 a b), errV (twoE 2 a b)]) ∧ Below w.heap.size w w' := by
  go_enter Try.func30, Try.ntmps30
  go_wp2_with fail
  go_ret2
  exact ⟨ret2 (tv2 a b).symm (by rw [te0 (by decide) (by decide) (fun h => absurd h (by decide)) (fun h => absurd h (by decide))]; rfl), Below.refl _ _⟩
set_option maxRecDepth 100000 in
set_option maxHeartbeats 1000000 in
theorem two_3 (a b : Int) (w : World) : Calls Try.prog 30 #[.int .i64 3, .int .i64 a, .int .i64 b] w fun e w' => e = .returned (.tuple #[.int .i64 (twoV 3 a b), errV (twoE 3 a b)]) ∧ Below w.heap.size w w' := by
  go_enter Try.func30, Try.ntmps30
  go_wp2_with fail
  go_ret2
  exact ⟨ret2 (tv3 a b).symm (by rw [te0 (by decide) (by decide) (fun h => absurd h (by decide)) (fun h => absurd h (by decide))]; rfl), Below.refl _ _⟩
set_option maxRecDepth 100000 in
set_option maxHeartbeats 1000000 in
theorem two_4 (a b : Int) (w : World) : Calls Try.prog 30 #[.int .i64 4, .int .i64 a, .int .i64 b] w fun e w' => e = .returned (.tuple #[.int .i64 (twoV 4 a b), errV (twoE 4 a b)]) ∧ Below w.heap.size w w' := by
  go_enter Try.func30, Try.ntmps30
  go_wp2_with fail
  refine (quotient_any a b w).mono ?_
  rintro e w1 ⟨rfl, hB⟩
  go_wp2_with fail
  go_ret2
  exact ⟨rfl, hB⟩
set_option maxRecDepth 100000 in
set_option maxHeartbeats 1000000 in
theorem two_5 (a b : Int) (ha : In64 a) (hb : In64 b) (w : World) : Calls Try.prog 30 #[.int .i64 5, .int .i64 a, .int .i64 b] w fun e w' => e = .returned (.tuple #[.int .i64 (twoV 5 a b), errV (twoE 5 a b)]) ∧ Below w.heap.size w w' := by
  go_enter Try.func30, Try.ntmps30
  go_wp2_with fail
  refine (residue_any a b ha hb w).mono ?_
  rintro e w1 ⟨rfl, hB⟩
  go_wp2_with fail
  go_ret2
  exact ⟨ret2 (tv5 a b).symm (by rw [te0 (by decide) (by decide) (fun h => absurd h (by decide)) (fun h => absurd h (by decide))]; rfl), hB⟩
set_option maxRecDepth 100000 in
set_option maxHeartbeats 1000000 in
theorem two_6 (a b : Int) (w : World) : Calls Try.prog 30 #[.int .i64 6, .int .i64 a, .int .i64 b] w fun e w' => e = .returned (.tuple #[.int .i64 (twoV 6 a b), errV (twoE 6 a b)]) ∧ Below w.heap.size w w' := by
  go_enter Try.func30, Try.ntmps30
  go_wp2_with fail
  all_goals (go_ret2; exact ⟨ret2 (by rw [tv6]; omega) (by rw [te0 (by decide) (by decide) (fun h => absurd h (by decide)) (fun h => absurd h (by decide))]; rfl), Below.refl _ _⟩)
set_option maxRecDepth 100000 in
set_option maxHeartbeats 1000000 in
theorem two_7 (a b : Int) (w : World) : Calls Try.prog 30 #[.int .i64 7, .int .i64 a, .int .i64 b] w fun e w' => e = .returned (.tuple #[.int .i64 (twoV 7 a b), errV (twoE 7 a b)]) ∧ Below w.heap.size w w' := by
  go_enter Try.func30, Try.ntmps30
  go_wp2_with fail
  all_goals (go_ret2; exact ⟨ret2 (by rw [tv7]; omega) (by rw [te0 (by decide) (by decide) (fun h => absurd h (by decide)) (fun h => absurd h (by decide))]; rfl), Below.refl _ _⟩)
set_option maxRecDepth 100000 in
set_option maxHeartbeats 1000000 in
theorem two_8 (a b : Int) (w : World) : Calls Try.prog 30 #[.int .i64 8, .int .i64 a, .int .i64 b] w fun e w' => e = .returned (.tuple #[.int .i64 (twoV 8 a b), errV (twoE 8 a b)]) ∧ Below w.heap.size w w' := by
  go_enter Try.func30, Try.ntmps30
  go_wp2_with fail
  refine (one_if (a == b) w).mono ?_
  rintro e w1 ⟨rfl, rfl⟩
  go_wp2_with fail
  go_ret2
  exact ⟨ret2 (tv8 a b).symm (by rw [te0 (by decide) (by decide) (fun h => absurd h (by decide)) (fun h => absurd h (by decide))]; rfl), Below.refl _ _⟩
set_option maxRecDepth 100000 in
set_option maxHeartbeats 1000000 in
theorem two_9 (a b : Int) (w : World) : Calls Try.prog 30 #[.int .i64 9, .int .i64 a, .int .i64 b] w fun e w' => e = .returned (.tuple #[.int .i64 (twoV 9 a b), errV (twoE 9 a b)]) ∧ Below w.heap.size w w' := by
  go_enter Try.func30, Try.ntmps30
  go_wp2_with fail
  refine (one_if (a != b) w).mono ?_
  rintro e w1 ⟨rfl, rfl⟩
  go_wp2_with fail
  go_ret2
  exact ⟨ret2 (tv9 a b).symm (by rw [te0 (by decide) (by decide) (fun h => absurd h (by decide)) (fun h => absurd h (by decide))]; rfl), Below.refl _ _⟩
set_option maxRecDepth 100000 in
set_option maxHeartbeats 1000000 in
theorem two_10 (a b : Int) (w : World) : Calls Try.prog 30 #[.int .i64 10, .int .i64 a, .int .i64 b] w fun e w' => e = .returned (.tuple #[.int .i64 (twoV 10 a b), errV (twoE 10 a b)]) ∧ Below w.heap.size w w' := by
  go_enter Try.func30, Try.ntmps30
  go_wp2_with fail
  refine (one_if (decide (a < b)) w).mono ?_
  rintro e w1 ⟨rfl, rfl⟩
  go_wp2_with fail
  go_ret2
  exact ⟨ret2 (tv10 a b).symm (by rw [te0 (by decide) (by decide) (fun h => absurd h (by decide)) (fun h => absurd h (by decide))]; rfl), Below.refl _ _⟩
set_option maxRecDepth 100000 in
set_option maxHeartbeats 1000000 in
theorem two_11 (a b : Int) (w : World) : Calls Try.prog 30 #[.int .i64 11, .int .i64 a, .int .i64 b] w fun e w' => e = .returned (.tuple #[.int .i64 (twoV 11 a b), errV (twoE 11 a b)]) ∧ Below w.heap.size w w' := by
  go_enter Try.func30, Try.ntmps30
  go_wp2_with fail
  refine (one_if (decide (a ≤ b)) w).mono ?_
  rintro e w1 ⟨rfl, rfl⟩
  go_wp2_with fail
  go_ret2
  exact ⟨ret2 (tv11 a b).symm (by rw [te0 (by decide) (by decide) (fun h => absurd h (by decide)) (fun h => absurd h (by decide))]; rfl), Below.refl _ _⟩
set_option maxRecDepth 100000 in
set_option maxHeartbeats 1000000 in
theorem two_12 (a b : Int) (w : World) : Calls Try.prog 30 #[.int .i64 12, .int .i64 a, .int .i64 b] w fun e w' => e = .returned (.tuple #[.int .i64 (twoV 12 a b), errV (twoE 12 a b)]) ∧ Below w.heap.size w w' := by
  go_enter Try.func30, Try.ntmps30
  go_wp2_with fail
  refine (one_if (decide (b ≤ a)) w).mono ?_
  rintro e w1 ⟨rfl, rfl⟩
  go_wp2_with fail
  go_ret2
  exact ⟨ret2 (tv12 a b).symm (by rw [te0 (by decide) (by decide) (fun h => absurd h (by decide)) (fun h => absurd h (by decide))]; rfl), Below.refl _ _⟩
set_option maxRecDepth 100000 in
set_option maxHeartbeats 1000000 in
theorem two_13 (a b : Int) (w : World) : Calls Try.prog 30 #[.int .i64 13, .int .i64 a, .int .i64 b] w fun e w' => e = .returned (.tuple #[.int .i64 (twoV 13 a b), errV (twoE 13 a b)]) ∧ Below w.heap.size w w' := by
  go_enter Try.func30, Try.ntmps30
  go_wp2_with fail
  refine (one_if (decide (b < a)) w).mono ?_
  rintro e w1 ⟨rfl, rfl⟩
  go_wp2_with fail
  go_ret2
  exact ⟨ret2 (tv13 a b).symm (by rw [te0 (by decide) (by decide) (fun h => absurd h (by decide)) (fun h => absurd h (by decide))]; rfl), Below.refl _ _⟩
set_option maxRecDepth 100000 in
set_option maxHeartbeats 1000000 in
theorem two_14 (a b : Int) (w : World) : Calls Try.prog 30 #[.int .i64 14, .int .i64 a, .int .i64 b] w fun e w' => e = .returned (.tuple #[.int .i64 (twoV 14 a b), errV (twoE 14 a b)]) ∧ Below w.heap.size w w' := by
  go_enter Try.func30, Try.ntmps30
  go_wp2_with fail
  go_ret2
  exact ⟨ret2 (tv14 a b).symm (by rw [te0 (by decide) (by decide) (fun h => absurd h (by decide)) (fun h => absurd h (by decide))]; rfl), Below.refl _ _⟩
set_option maxRecDepth 100000 in
set_option maxHeartbeats 1000000 in
theorem two_15 (a b : Int) (w : World) : Calls Try.prog 30 #[.int .i64 15, .int .i64 a, .int .i64 b] w fun e w' => e = .returned (.tuple #[.int .i64 (twoV 15 a b), errV (twoE 15 a b)]) ∧ Below w.heap.size w w' := by
  go_enter Try.func30, Try.ntmps30
  go_wp2_with fail
  go_ret2
  exact ⟨ret2 (tv15 a b).symm (by rw [te0 (by decide) (by decide) (fun h => absurd h (by decide)) (fun h => absurd h (by decide))]; rfl), Below.refl _ _⟩
set_option maxRecDepth 100000 in
set_option maxHeartbeats 1000000 in
theorem two_16 (a b : Int) (hb : In64 b) (w : World) : Calls Try.prog 30 #[.int .i64 16, .int .i64 a, .int .i64 b] w fun e w' => e = .returned (.tuple #[.int .i64 (twoV 16 a b), errV (twoE 16 a b)]) ∧ Below w.heap.size w w' := by
  go_enter Try.func30, Try.ntmps30
  go_wp2_with fail
  refine (power_any a b hb w).mono ?_
  rintro e w1 ⟨rfl, hw⟩
  subst hw
  go_wp2_with fail
  go_ret2
  exact ⟨rfl, Below.refl _ _⟩
set_option maxRecDepth 100000 in
set_option maxHeartbeats 1000000 in
theorem two_other (f a b : Int) (hf : f < 1 ∨ 16 < f) (w : World) : Calls Try.prog 30 #[.int .i64 f, .int .i64 a, .int .i64 b] w fun e w' => e = .returned (.tuple #[.int .i64 (twoV f a b), errV (twoE f a b)]) ∧ Below w.heap.size w w' := by
  have HF : Hid (f < 1 ∨ 16 < f) := hf
  have n1 : (f == 1) = false := by simp; omega
  have n2 : (f == 2) = false := by simp; omega
  have n3 : (f == 3) = false := by simp; omega
  have n4 : (f == 4) = false := by simp; omega
  have n5 : (f == 5) = false := by simp; omega
  have n6 : (f == 6) = false := by simp; omega
  have n7 : (f == 7) = false := by simp; omega
  have n8 : (f == 8) = false := by simp; omega
  have n9 : (f == 9) = false := by simp; omega
  have n10 : (f == 10) = false := by simp; omega
  have n11 : (f == 11) = false := by simp; omega
  have n12 : (f == 12) = false := by simp; omega
  have n13 : (f == 13) = false := by simp; omega
  have n14 : (f == 14) = false := by simp; omega
  have n15 : (f == 15) = false := by simp; omega
  have n16 : (f == 16) = false := by simp; omega
  clear hf
  go_enter Try.func30, Try.ntmps30
  go_wp2_with fail
  go_ret2
  have hf := HF.out
  refine ⟨ret2 ?_ (by simp [twoE, errV, hf]), Below.refl _ _⟩
  unfold twoV
  repeat rw [if_neg (by omega)]
theorem two_any (f a b : Int) (ha : In64 a) (hb : In64 b) (w : World) : Calls Try.prog 30 #[.int .i64 f, .int .i64 a, .int .i64 b] w fun e w' => e = .returned (.tuple #[.int .i64 (twoV f a b), errV (twoE f a b)]) ∧ Below w.heap.size w w' := by
  by_cases hf : f < 1 ∨ 16 < f
  · exact two_other f a b hf w
  · rcases (by omega : f = 1 ∨ f = 2 ∨ f = 3 ∨ f = 4 ∨ f = 5 ∨ f = 6 ∨ f = 7 ∨ f = 8 ∨ f = 9 ∨ f = 10 ∨ f = 11 ∨ f = 12 ∨ f = 13 ∨ f = 14 ∨ f = 15 ∨ f = 16) with rfl | rfl | rfl | rfl | rfl | rfl | rfl | rfl | rfl | rfl | rfl | rfl | rfl | rfl | rfl | rfl
    · exact two_1 a b w
    · exact two_2 a b w
    · exact two_3 a b w
    · exact two_4 a b w
    · exact two_5 a b ha hb w
    · exact two_6 a b w
    · exact two_7 a b w
    · exact two_8 a b w
    · exact two_9 a b w
    · exact two_10 a b w
    · exact two_11 a b w
    · exact two_12 a b w
    · exact two_13 a b w
    · exact two_14 a b w
    · exact two_15 a b w
    · exact two_16 a b hb w
end Go.Proofs.Ytgaelbgeoobgiaa
