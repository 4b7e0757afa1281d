/-
  The walk of the statement on the number that changes nothing.
-/
import Derived.Test.YtbfjhgmdndkmdabTwos
import Derived.Test.YtbfjhgmdndkmdabNeut
import Derived.Test.YtbfjhgmdndkmdabBitm
namespace Go.Proofs.Ytbfjhgmdndkmdab
open Go.RowKit
set_option linter.unusedVariables false

theorem neut_6' (w : World) : Calls Try.prog 9 #[.int .i64 6] w fun e w' => e = .returned (.tuple #[.int .i64 (-9223372036854775808), .nilIface]) ∧ w' = w := neut_6 w
set_option maxRecDepth 100000 in
set_option maxHeartbeats 1000000 in
theorem same_1 (a : Int) (ha : In64 a) (w : World) : Calls Try.prog 6 #[.int .i64 1, .int .i64 a] w fun e w' => e = .returned (.bool true) ∧ Below w.heap.size w w' := by
  have HA : Hid (In64 a) := ha
  have t1 : (tw 1 a 0 == a) = true := beq_of (by rw [tw1, Int.add_zero]; exact ha.same)
  have t2 : (tw 1 0 a == a) = true := beq_of (by rw [tw1, Int.zero_add]; exact ha.same)
  clear ha
  go_enter Try.func6, Try.ntmps6
  go_wp2_with fail
  refine (neut_6' w).mono ?_
  rintro e wx ⟨rfl, hw⟩
  obtain rfl : w = wx := hw.symm
  go_wp2_with fail
  refine (neut_1 w).mono ?_
  rintro e wy ⟨rfl, hw2⟩
  obtain rfl : w = wy := hw2.symm
  rw [show neutV 1 = 0 from rfl, show errV (neutE 1) = Value.nilIface from rfl]
  go_wp2_with fail
  refine (tw_any 1 a 0 HA.out (by unfold In64; decide) w).mono ?_
  rintro e w1 ⟨rfl, hC1⟩
  have hB1 : Below w.heap.size w w1 := hC1
  go_wp2_with fail
  refine (tw_any 1 0 a (by unfold In64; decide) HA.out w1).mono ?_
  rintro e w2 ⟨rfl, hC2⟩
  have hB2 : Below w.heap.size w w2 := hB1.trans (hC2.mono hB1.size)
  clear hB1 hC2
  go_wp2_with fail
  go_ret
  exact ⟨rfl, hB2⟩
set_option maxRecDepth 100000 in
set_option maxHeartbeats 1000000 in
theorem same_2 (a : Int) (ha : In64 a) (w : World) : Calls Try.prog 6 #[.int .i64 2, .int .i64 a] w fun e w' => e = .returned (.bool true) ∧ Below w.heap.size w w' := by
  have HA : Hid (In64 a) := ha
  have t1 : (tw 2 a 0 == a) = true := beq_of (by rw [tw2, Int.sub_zero]; exact ha.same)
  clear ha
  go_enter Try.func6, Try.ntmps6
  go_wp2_with fail
  refine (neut_6' w).mono ?_
  rintro e wx ⟨rfl, hw⟩
  obtain rfl : w = wx := hw.symm
  go_wp2_with fail
  refine (neut_2 w).mono ?_
  rintro e wy ⟨rfl, hw2⟩
  obtain rfl : w = wy := hw2.symm
  rw [show neutV 2 = 0 from rfl, show errV (neutE 2) = Value.nilIface from rfl]
  go_wp2_with fail
  refine (tw_any 2 a 0 HA.out (by unfold In64; decide) w).mono ?_
  rintro e w1 ⟨rfl, hC1⟩
  have hB1 : Below w.heap.size w w1 := hC1
  go_wp2_with fail
  go_ret
  exact ⟨rfl, hB1⟩
set_option maxRecDepth 100000 in
set_option maxHeartbeats 1000000 in
theorem same_3 (a : Int) (ha : In64 a) (w : World) : Calls Try.prog 6 #[.int .i64 3, .int .i64 a] w fun e w' => e = .returned (.bool true) ∧ Below w.heap.size w w' := by
  have HA : Hid (In64 a) := ha
  have t1 : (tw 3 a 1 == a) = true := beq_of (by rw [tw3, Int.mul_one]; exact ha.same)
  have t2 : (tw 3 1 a == a) = true := beq_of (by rw [tw3, Int.one_mul]; exact ha.same)
  clear ha
  go_enter Try.func6, Try.ntmps6
  go_wp2_with fail
  refine (neut_6' w).mono ?_
  rintro e wx ⟨rfl, hw⟩
  obtain rfl : w = wx := hw.symm
  go_wp2_with fail
  refine (neut_3 w).mono ?_
  rintro e wy ⟨rfl, hw2⟩
  obtain rfl : w = wy := hw2.symm
  rw [show neutV 3 = 1 from rfl, show errV (neutE 3) = Value.nilIface from rfl]
  go_wp2_with fail
  refine (tw_any 3 a 1 HA.out (by unfold In64; decide) w).mono ?_
  rintro e w1 ⟨rfl, hC1⟩
  have hB1 : Below w.heap.size w w1 := hC1
  go_wp2_with fail
  refine (tw_any 3 1 a (by unfold In64; decide) HA.out w1).mono ?_
  rintro e w2 ⟨rfl, hC2⟩
  have hB2 : Below w.heap.size w w2 := hB1.trans (hC2.mono hB1.size)
  clear hB1 hC2
  go_wp2_with fail
  go_ret
  exact ⟨rfl, hB2⟩
set_option maxRecDepth 100000 in
set_option maxHeartbeats 1000000 in
theorem same_4 (a : Int) (ha : In64 a) (w : World) : Calls Try.prog 6 #[.int .i64 4, .int .i64 a] w fun e w' => e = .returned (.bool true) ∧ Below w.heap.size w w' := by
  have HA : Hid (In64 a) := ha
  have t1 : (tw 4 a 1 == a) = true := beq_of (by rw [tw4 a 1 (by decide)]; unfold divV; rw [Int.fdiv_one]; exact ha.same)
  clear ha
  go_enter Try.func6, Try.ntmps6
  go_wp2_with fail
  refine (neut_6' w).mono ?_
  rintro e wx ⟨rfl, hw⟩
  obtain rfl : w = wx := hw.symm
  go_wp2_with fail
  refine (neut_4 w).mono ?_
  rintro e wy ⟨rfl, hw2⟩
  obtain rfl : w = wy := hw2.symm
  rw [show neutV 4 = 1 from rfl, show errV (neutE 4) = Value.nilIface from rfl]
  go_wp2_with fail
  refine (tw_any 4 a 1 HA.out (by unfold In64; decide) w).mono ?_
  rintro e w1 ⟨rfl, hC1⟩
  have hB1 : Below w.heap.size w w1 := hC1
  go_wp2_with fail
  go_ret
  exact ⟨rfl, hB1⟩
set_option maxRecDepth 100000 in
set_option maxHeartbeats 1000000 in
theorem same_5 (a : Int) (ha : In64 a) (w : World) : Calls Try.prog 6 #[.int .i64 5, .int .i64 a] w fun e w' => e = .returned (.bool true) ∧ Below w.heap.size w w' := by
  have HA : Hid (In64 a) := ha
  have t2 : (tw 5 0 a == a) = true := beq_of (by rw [tw5, Int.fmod_zero])
  clear ha
  go_enter Try.func6, Try.ntmps6
  go_wp2_with fail
  refine (neut_6' w).mono ?_
  rintro e wx ⟨rfl, hw⟩
  obtain rfl : w = wx := hw.symm
  go_wp2_with fail
  refine (neut_5 w).mono ?_
  rintro e wy ⟨rfl, hw2⟩
  obtain rfl : w = wy := hw2.symm
  rw [show neutV 5 = 0 from rfl, show errV (neutE 5) = Value.nilIface from rfl]
  go_wp2_with fail
  refine (tw_any 5 0 a (by unfold In64; decide) HA.out w).mono ?_
  rintro e w1 ⟨rfl, hC1⟩
  have hB1 : Below w.heap.size w w1 := hC1
  go_wp2_with fail
  go_ret
  exact ⟨rfl, hB1⟩
set_option maxRecDepth 100000 in
set_option maxHeartbeats 1000000 in
theorem same_6 (a : Int) (ha : In64 a) (w : World) : Calls Try.prog 6 #[.int .i64 6, .int .i64 a] w fun e w' => e = .returned (.bool true) ∧ Below w.heap.size w w' := by
  have HA : Hid (In64 a) := ha
  have t1 : (tw 6 a (-9223372036854775808) == a) = true := beq_of (by rw [tw6]; have := ha.1; omega)
  have t2 : (tw 6 (-9223372036854775808) a == a) = true := beq_of (by rw [tw6]; have := ha.1; omega)
  clear ha
  go_enter Try.func6, Try.ntmps6
  go_wp2_with fail
  refine (neut_6' w).mono ?_
  rintro e wx ⟨rfl, hw⟩
  obtain rfl : w = wx := hw.symm
  go_wp2_with fail
  refine (neut_6 w).mono ?_
  rintro e wy ⟨rfl, hw2⟩
  obtain rfl : w = wy := hw2.symm
  rw [show neutV 6 = (-9223372036854775808) from rfl, show errV (neutE 6) = Value.nilIface from rfl]
  go_wp2_with fail
  refine (tw_any 6 a (-9223372036854775808) HA.out (by unfold In64; decide) w).mono ?_
  rintro e w1 ⟨rfl, hC1⟩
  have hB1 : Below w.heap.size w w1 := hC1
  go_wp2_with fail
  refine (tw_any 6 (-9223372036854775808) a (by unfold In64; decide) HA.out w1).mono ?_
  rintro e w2 ⟨rfl, hC2⟩
  have hB2 : Below w.heap.size w w2 := hB1.trans (hC2.mono hB1.size)
  clear hB1 hC2
  go_wp2_with fail
  go_ret
  exact ⟨rfl, hB2⟩
set_option maxRecDepth 100000 in
set_option maxHeartbeats 1000000 in
theorem same_7 (a : Int) (ha : In64 a) (w : World) : Calls Try.prog 6 #[.int .i64 7, .int .i64 a] w fun e w' => e = .returned (.bool true) ∧ Below w.heap.size w w' := by
  have HA : Hid (In64 a) := ha
  have t1 : (tw 7 a 9223372036854775807 == a) = true := beq_of (by rw [tw7]; have := ha.2; omega)
  have t2 : (tw 7 9223372036854775807 a == a) = true := beq_of (by rw [tw7]; have := ha.2; omega)
  clear ha
  go_enter Try.func6, Try.ntmps6
  go_wp2_with fail
  refine (neut_6' w).mono ?_
  rintro e wx ⟨rfl, hw⟩
  obtain rfl : w = wx := hw.symm
  go_wp2_with fail
  refine (neut_7 w).mono ?_
  rintro e wy ⟨rfl, hw2⟩
  obtain rfl : w = wy := hw2.symm
  rw [show neutV 7 = 9223372036854775807 from rfl, show errV (neutE 7) = Value.nilIface from rfl]
  go_wp2_with fail
  refine (tw_any 7 a 9223372036854775807 HA.out (by unfold In64; decide) w).mono ?_
  rintro e w1 ⟨rfl, hC1⟩
  have hB1 : Below w.heap.size w w1 := hC1
  go_wp2_with fail
  refine (tw_any 7 9223372036854775807 a (by unfold In64; decide) HA.out w1).mono ?_
  rintro e w2 ⟨rfl, hC2⟩
  have hB2 : Below w.heap.size w w2 := hB1.trans (hC2.mono hB1.size)
  clear hB1 hC2
  go_wp2_with fail
  go_ret
  exact ⟨rfl, hB2⟩
set_option maxRecDepth 100000 in
set_option maxHeartbeats 1000000 in
theorem same_14 (a : Int) (ha : In64 a) (w : World) : Calls Try.prog 6 #[.int .i64 14, .int .i64 a] w fun e w' => e = .returned (.bool true) ∧ Below w.heap.size w w' := by
  have HA : Hid (In64 a) := ha
  have t1 : (tw 14 a (-1) == a) = true := beq_of (by obtain ⟨x, rfl⟩ := bv_of ha; rw [tw14, show (-1 : Int) = (BitVec.allOnes 64).toInt from rfl, band_bv, BitVec.and_allOnes])
  have t2 : (tw 14 (-1) a == a) = true := beq_of (by obtain ⟨x, rfl⟩ := bv_of ha; rw [tw14, show (-1 : Int) = (BitVec.allOnes 64).toInt from rfl, band_bv, BitVec.allOnes_and])
  clear ha
  go_enter Try.func6, Try.ntmps6
  go_wp2_with fail
  refine (neut_6' w).mono ?_
  rintro e wx ⟨rfl, hw⟩
  obtain rfl : w = wx := hw.symm
  go_wp2_with fail
  refine (neut_14 w).mono ?_
  rintro e wy ⟨rfl, hw2⟩
  obtain rfl : w = wy := hw2.symm
  rw [show neutV 14 = (-1) from rfl, show errV (neutE 14) = Value.nilIface from rfl]
  go_wp2_with fail
  refine (tw_any 14 a (-1) HA.out (by unfold In64; decide) w).mono ?_
  rintro e w1 ⟨rfl, hC1⟩
  have hB1 : Below w.heap.size w w1 := hC1
  go_wp2_with fail
  refine (tw_any 14 (-1) a (by unfold In64; decide) HA.out w1).mono ?_
  rintro e w2 ⟨rfl, hC2⟩
  have hB2 : Below w.heap.size w w2 := hB1.trans (hC2.mono hB1.size)
  clear hB1 hC2
  go_wp2_with fail
  go_ret
  exact ⟨rfl, hB2⟩
set_option maxRecDepth 100000 in
set_option maxHeartbeats 1000000 in
theorem same_15 (a : Int) (ha : In64 a) (w : World) : Calls Try.prog 6 #[.int .i64 15, .int .i64 a] w fun e w' => e = .returned (.bool true) ∧ Below w.heap.size w w' := by
  have HA : Hid (In64 a) := ha
  have t1 : (tw 15 a 0 == a) = true := beq_of (by obtain ⟨x, rfl⟩ := bv_of ha; rw [tw15, show (0 : Int) = (0#64).toInt from rfl, bor_bv, BitVec.or_zero])
  have t2 : (tw 15 0 a == a) = true := beq_of (by obtain ⟨x, rfl⟩ := bv_of ha; rw [tw15, show (0 : Int) = (0#64).toInt from rfl, bor_bv, BitVec.zero_or])
  clear ha
  go_enter Try.func6, Try.ntmps6
  go_wp2_with fail
  refine (neut_6' w).mono ?_
  rintro e wx ⟨rfl, hw⟩
  obtain rfl : w = wx := hw.symm
  go_wp2_with fail
  refine (neut_15 w).mono ?_
  rintro e wy ⟨rfl, hw2⟩
  obtain rfl : w = wy := hw2.symm
  rw [show neutV 15 = 0 from rfl, show errV (neutE 15) = Value.nilIface from rfl]
  go_wp2_with fail
  refine (tw_any 15 a 0 HA.out (by unfold In64; decide) w).mono ?_
  rintro e w1 ⟨rfl, hC1⟩
  have hB1 : Below w.heap.size w w1 := hC1
  go_wp2_with fail
  refine (tw_any 15 0 a (by unfold In64; decide) HA.out w1).mono ?_
  rintro e w2 ⟨rfl, hC2⟩
  have hB2 : Below w.heap.size w w2 := hB1.trans (hC2.mono hB1.size)
  clear hB1 hC2
  go_wp2_with fail
  go_ret
  exact ⟨rfl, hB2⟩
set_option maxRecDepth 100000 in
set_option maxHeartbeats 1000000 in
theorem same_16 (a : Int) (ha : In64 a) (w : World) : Calls Try.prog 6 #[.int .i64 16, .int .i64 a] w fun e w' => e = .returned (.bool true) ∧ Below w.heap.size w w' := by
  have HA : Hid (In64 a) := ha
  have t1 : (tw 16 a 1 == a) = true := beq_of (by rw [tw16 a 1 (by decide)]; unfold powV; rw [show (1 : Int).toNat = 1 from rfl, Int.pow_succ, Int.pow_zero, Int.one_mul]; exact ha.same)
  clear ha
  go_enter Try.func6, Try.ntmps6
  go_wp2_with fail
  refine (neut_6' w).mono ?_
  rintro e wx ⟨rfl, hw⟩
  obtain rfl : w = wx := hw.symm
  go_wp2_with fail
  refine (neut_16 w).mono ?_
  rintro e wy ⟨rfl, hw2⟩
  obtain rfl : w = wy := hw2.symm
  rw [show neutV 16 = 1 from rfl, show errV (neutE 16) = Value.nilIface from rfl]
  go_wp2_with fail
  refine (tw_any 16 a 1 HA.out (by unfold In64; decide) w).mono ?_
  rintro e w1 ⟨rfl, hC1⟩
  have hB1 : Below w.heap.size w w1 := hC1
  go_wp2_with fail
  go_ret
  exact ⟨rfl, hB1⟩
set_option maxRecDepth 100000 in
set_option maxHeartbeats 1000000 in
theorem same_other (f a : Int) (hf : neutE f ≠ 0) (w : World) : Calls Try.prog 6 #[.int .i64 f, .int .i64 a] w fun e w' => e = .returned (.bool true) ∧ Below w.heap.size w w' := by
  have HF : Hid (neutE f ≠ 0) := hf
  clear hf
  go_enter Try.func6, Try.ntmps6
  go_wp2_with fail
  refine (neut_6' w).mono ?_
  rintro e wx ⟨rfl, hw⟩
  obtain rfl : w = wx := hw.symm
  go_wp2_with fail
  refine (neut_any f w).mono ?_
  rintro e wy ⟨rfl, hw2⟩
  obtain rfl : w = wy := hw2.symm
  rw [errV_pos HF.out]
  go_wp2_with fail
  go_ret
  exact ⟨rfl, Below.refl _ _⟩
theorem same_walk (f a : Int) (ha : In64 a) (w : World) : Calls Try.prog 6 #[.int .i64 f, .int .i64 a] w fun e w' => e = .returned (.bool true) ∧ Below w.heap.size w w' := by
  by_cases hf : neutE f ≠ 0
  · exact same_other f a hf w
  · have h : f = 1 ∨ f = 2 ∨ f = 3 ∨ f = 4 ∨ f = 5 ∨ f = 6 ∨ f = 7 ∨ f = 14 ∨ f = 15 ∨ f = 16 := by
      by_cases h1 : f < 1 ∨ 16 < f
      · exact absurd (show neutE f ≠ 0 by simp [neutE, h1]) hf
      · by_cases h2 : 8 ≤ f ∧ f ≤ 13
        · exact absurd (show neutE f ≠ 0 by simp [neutE, h1, h2]) hf
        · omega
    rcases h with rfl | rfl | rfl | rfl | rfl | rfl | rfl | rfl | rfl | rfl
    · exact same_1 a ha w
    · exact same_2 a ha w
    · exact same_3 a ha w
    · exact same_4 a ha w
    · exact same_5 a ha w
    · exact same_6 a ha w
    · exact same_7 a ha w
    · exact same_14 a ha w
    · exact same_15 a ha w
    · exact same_16 a ha w
end Go.Proofs.Ytbfjhgmdndkmdab
