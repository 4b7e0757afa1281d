/-
  The walk of the statement on powers.
-/
import Derived.Test.YtbfjhgmdndkmdabTwos
namespace Go.Proofs.Ytbfjhgmdndkmdab
open Go.RowKit
set_option linter.unusedVariables false

theorem pow_sum {a m n : Int} (hm : 0 ≤ m) (hn : 0 ≤ n) (hm2 : m ≤ 1099511627776) (hn2 : n ≤ 1099511627776) : tw 16 a (wrap64 (m + n)) = tw 3 (tw 16 a m) (tw 16 a n) := by
  rw [w_small (by omega) (by omega), tw16 a _ (by omega), tw16 a m (by omega), tw16 a n (by omega), tw3]
  unfold powV
  rw [w_mull, w_mulr, show (m + n).toNat = m.toNat + n.toNat from by omega, Int.pow_add]
theorem pow_prod {a b m : Int} (hm : 0 ≤ m) : tw 16 (tw 3 a b) m = tw 3 (tw 16 a m) (tw 16 b m) := by
  rw [tw16 _ m (by omega), tw16 a m (by omega), tw16 b m (by omega), tw3, tw3]
  unfold powV
  rw [w_mull, w_mulr, w_pow, Int.mul_pow]
theorem pow_pow {a m n : Int} (hm : 0 ≤ m) (hn : 0 ≤ n) (hm2 : m ≤ 1048576) (hn2 : n ≤ 1048576) : tw 16 (tw 16 a m) n = tw 16 a (wrap64 (m * n)) := by
  have h1 : 0 ≤ m * n := Int.mul_nonneg hm hn
  have h2 : m * n ≤ 1048576 * 1048576 := Int.mul_le_mul hm2 hn2 hn (by decide)
  rw [w_small (by omega) (by omega), tw16 _ n (by omega), tw16 a m (by omega), tw16 a _ (by omega)]
  unfold powV
  rw [w_pow, ← Int.pow_mul, Int.toNat_mul hm hn]
set_option maxRecDepth 100000 in
set_option maxHeartbeats 1000000 in
theorem powers_walk (a b m n : Int) (ha : In64 a) (hb : In64 b) (hm : In64 m) (hn : In64 n) (w : World) :
    Calls Try.prog 5 #[.int .i64 a, .int .i64 b, .int .i64 m, .int .i64 n] w fun e w' => e = .returned (.bool true) ∧ Below w.heap.size w w' := by
  have HA : Hid (In64 a ∧ In64 b ∧ In64 m ∧ In64 n) := ⟨ha, hb, hm, hn⟩
  have t0 : (tw 16 3 4 != 81) = false := by decide +kernel
  clear ha hb hm hn
  by_cases h1 : m < 0
  · have c1 : decide (m < 0) = true := by simp [h1]
    clear h1
    go_enter Try.func5, Try.ntmps5
    go_wp2_with fail
    refine (tw_any 16 3 4 (by unfold In64; decide) (by unfold In64; decide) w).mono ?_
    rintro e w1 ⟨rfl, hC1⟩
    have hB1 : Below w.heap.size w w1 := hC1
    go_wp2_with fail
    go_ret
    exact ⟨rfl, hB1⟩
  have c1 : decide (m < 0) = false := by simp [h1]
  by_cases h2 : n < 0
  · have c2 : decide (n < 0) = true := by simp [h2]
    clear h1 h2
    go_enter Try.func5, Try.ntmps5
    go_wp2_with fail
    refine (tw_any 16 3 4 (by unfold In64; decide) (by unfold In64; decide) w).mono ?_
    rintro e w1 ⟨rfl, hC1⟩
    have hB1 : Below w.heap.size w w1 := hC1
    go_wp2_with fail
    go_ret
    exact ⟨rfl, hB1⟩
  have c2 : decide (n < 0) = false := by simp [h2]
  by_cases h3 : 1099511627776 < m
  · have c3 : decide (1099511627776 < m) = true := by simp [h3]
    clear h1 h2 h3
    go_enter Try.func5, Try.ntmps5
    go_wp2_with fail
    refine (tw_any 16 3 4 (by unfold In64; decide) (by unfold In64; decide) w).mono ?_
    rintro e w1 ⟨rfl, hC1⟩
    have hB1 : Below w.heap.size w w1 := hC1
    go_wp2_with fail
    go_ret
    exact ⟨rfl, hB1⟩
  have c3 : decide (1099511627776 < m) = false := by simp [h3]
  by_cases h4 : 1099511627776 < n
  · have c4 : decide (1099511627776 < n) = true := by simp [h4]
    clear h1 h2 h3 h4
    go_enter Try.func5, Try.ntmps5
    go_wp2_with fail
    refine (tw_any 16 3 4 (by unfold In64; decide) (by unfold In64; decide) w).mono ?_
    rintro e w1 ⟨rfl, hC1⟩
    have hB1 : Below w.heap.size w w1 := hC1
    go_wp2_with fail
    go_ret
    exact ⟨rfl, hB1⟩
  have c4 : decide (1099511627776 < n) = false := by simp [h4]
  have t1 : (tw 16 a (wrap64 (m + n)) != tw 3 (tw 16 a m) (tw 16 a n)) = false := bne_of (pow_sum (by omega) (by omega) (by omega) (by omega))
  have t2 : (tw 16 (tw 3 a b) m != tw 3 (tw 16 a m) (tw 16 b m)) = false := bne_of (pow_prod (by omega))
  clear h3 h4
  by_cases h5 : 1048576 < m
  · have c5 : decide (1048576 < m) = true := by simp [h5]
    clear h1 h2 h5
    go_enter Try.func5, Try.ntmps5
    go_wp2_with fail
    refine (tw_any 16 3 4 (by unfold In64; decide) (by unfold In64; decide) w).mono ?_
    rintro e w1 ⟨rfl, hC1⟩
    have hB1 : Below w.heap.size w w1 := hC1
    go_wp2_with fail
    refine (tw_any 16 a (wrap64 (m + n)) HA.out.1 (In64.w _) w1).mono ?_
    rintro e w2 ⟨rfl, hC2⟩
    have hB2 : Below w.heap.size w w2 := hB1.trans (hC2.mono hB1.size)
    clear hB1 hC2
    go_wp2_with fail
    refine (tw_any 16 a m HA.out.1 HA.out.2.2.1 w2).mono ?_
    rintro e w3 ⟨rfl, hC3⟩
    have hB3 : Below w.heap.size w w3 := hB2.trans (hC3.mono hB2.size)
    clear hB2 hC3
    go_wp2_with fail
    refine (tw_any 16 a n HA.out.1 HA.out.2.2.2 w3).mono ?_
    rintro e w4 ⟨rfl, hC4⟩
    have hB4 : Below w.heap.size w w4 := hB3.trans (hC4.mono hB3.size)
    clear hB3 hC4
    go_wp2_with fail
    refine (tw_any 3 (tw 16 a m) (tw 16 a n) (In64.tw HA.out.1 HA.out.2.2.1) (In64.tw HA.out.1 HA.out.2.2.2) w4).mono ?_
    rintro e w5 ⟨rfl, hC5⟩
    have hB5 : Below w.heap.size w w5 := hB4.trans (hC5.mono hB4.size)
    clear hB4 hC5
    go_wp2_with fail
    refine (tw_any 3 a b HA.out.1 HA.out.2.1 w5).mono ?_
    rintro e w6 ⟨rfl, hC6⟩
    have hB6 : Below w.heap.size w w6 := hB5.trans (hC6.mono hB5.size)
    clear hB5 hC6
    go_wp2_with fail
    refine (tw_any 16 (tw 3 a b) m (In64.tw HA.out.1 HA.out.2.1) HA.out.2.2.1 w6).mono ?_
    rintro e w7 ⟨rfl, hC7⟩
    have hB7 : Below w.heap.size w w7 := hB6.trans (hC7.mono hB6.size)
    clear hB6 hC7
    go_wp2_with fail
    refine (tw_any 16 a m HA.out.1 HA.out.2.2.1 w7).mono ?_
    rintro e w8 ⟨rfl, hC8⟩
    have hB8 : Below w.heap.size w w8 := hB7.trans (hC8.mono hB7.size)
    clear hB7 hC8
    go_wp2_with fail
    refine (tw_any 16 b m HA.out.2.1 HA.out.2.2.1 w8).mono ?_
    rintro e w9 ⟨rfl, hC9⟩
    have hB9 : Below w.heap.size w w9 := hB8.trans (hC9.mono hB8.size)
    clear hB8 hC9
    go_wp2_with fail
    refine (tw_any 3 (tw 16 a m) (tw 16 b m) (In64.tw HA.out.1 HA.out.2.2.1) (In64.tw HA.out.2.1 HA.out.2.2.1) w9).mono ?_
    rintro e w10 ⟨rfl, hC10⟩
    have hB10 : Below w.heap.size w w10 := hB9.trans (hC10.mono hB9.size)
    clear hB9 hC10
    go_wp2_with fail
    go_ret
    exact ⟨rfl, hB10⟩
  have c5 : decide (1048576 < m) = false := by simp [h5]
  by_cases h6 : 1048576 < n
  · have c6 : decide (1048576 < n) = true := by simp [h6]
    clear h1 h2 h5 h6
    go_enter Try.func5, Try.ntmps5
    go_wp2_with fail
    refine (tw_any 16 3 4 (by unfold In64; decide) (by unfold In64; decide) w).mono ?_
    rintro e w1 ⟨rfl, hC1⟩
    have hB1 : Below w.heap.size w w1 := hC1
    go_wp2_with fail
    refine (tw_any 16 a (wrap64 (m + n)) HA.out.1 (In64.w _) w1).mono ?_
    rintro e w2 ⟨rfl, hC2⟩
    have hB2 : Below w.heap.size w w2 := hB1.trans (hC2.mono hB1.size)
    clear hB1 hC2
    go_wp2_with fail
    refine (tw_any 16 a m HA.out.1 HA.out.2.2.1 w2).mono ?_
    rintro e w3 ⟨rfl, hC3⟩
    have hB3 : Below w.heap.size w w3 := hB2.trans (hC3.mono hB2.size)
    clear hB2 hC3
    go_wp2_with fail
    refine (tw_any 16 a n HA.out.1 HA.out.2.2.2 w3).mono ?_
    rintro e w4 ⟨rfl, hC4⟩
    have hB4 : Below w.heap.size w w4 := hB3.trans (hC4.mono hB3.size)
    clear hB3 hC4
    go_wp2_with fail
    refine (tw_any 3 (tw 16 a m) (tw 16 a n) (In64.tw HA.out.1 HA.out.2.2.1) (In64.tw HA.out.1 HA.out.2.2.2) w4).mono ?_
    rintro e w5 ⟨rfl, hC5⟩
    have hB5 : Below w.heap.size w w5 := hB4.trans (hC5.mono hB4.size)
    clear hB4 hC5
    go_wp2_with fail
    refine (tw_any 3 a b HA.out.1 HA.out.2.1 w5).mono ?_
    rintro e w6 ⟨rfl, hC6⟩
    have hB6 : Below w.heap.size w w6 := hB5.trans (hC6.mono hB5.size)
    clear hB5 hC6
    go_wp2_with fail
    refine (tw_any 16 (tw 3 a b) m (In64.tw HA.out.1 HA.out.2.1) HA.out.2.2.1 w6).mono ?_
    rintro e w7 ⟨rfl, hC7⟩
    have hB7 : Below w.heap.size w w7 := hB6.trans (hC7.mono hB6.size)
    clear hB6 hC7
    go_wp2_with fail
    refine (tw_any 16 a m HA.out.1 HA.out.2.2.1 w7).mono ?_
    rintro e w8 ⟨rfl, hC8⟩
    have hB8 : Below w.heap.size w w8 := hB7.trans (hC8.mono hB7.size)
    clear hB7 hC8
    go_wp2_with fail
    refine (tw_any 16 b m HA.out.2.1 HA.out.2.2.1 w8).mono ?_
    rintro e w9 ⟨rfl, hC9⟩
    have hB9 : Below w.heap.size w w9 := hB8.trans (hC9.mono hB8.size)
    clear hB8 hC9
    go_wp2_with fail
    refine (tw_any 3 (tw 16 a m) (tw 16 b m) (In64.tw HA.out.1 HA.out.2.2.1) (In64.tw HA.out.2.1 HA.out.2.2.1) w9).mono ?_
    rintro e w10 ⟨rfl, hC10⟩
    have hB10 : Below w.heap.size w w10 := hB9.trans (hC10.mono hB9.size)
    clear hB9 hC10
    go_wp2_with fail
    go_ret
    exact ⟨rfl, hB10⟩
  have c6 : decide (1048576 < n) = false := by simp [h6]
  have t3 : (tw 16 (tw 16 a m) n == tw 16 a (wrap64 (m * n))) = true := beq_of (pow_pow (by omega) (by omega) (by omega) (by omega))
  clear h1 h2 h5 h6
  go_enter Try.func5, Try.ntmps5
  go_wp2_with fail
  refine (tw_any 16 3 4 (by unfold In64; decide) (by unfold In64; decide) w).mono ?_
  rintro e w1 ⟨rfl, hC1⟩
  have hB1 : Below w.heap.size w w1 := hC1
  go_wp2_with fail
  refine (tw_any 16 a (wrap64 (m + n)) HA.out.1 (In64.w _) w1).mono ?_
  rintro e w2 ⟨rfl, hC2⟩
  have hB2 : Below w.heap.size w w2 := hB1.trans (hC2.mono hB1.size)
  clear hB1 hC2
  go_wp2_with fail
  refine (tw_any 16 a m HA.out.1 HA.out.2.2.1 w2).mono ?_
  rintro e w3 ⟨rfl, hC3⟩
  have hB3 : Below w.heap.size w w3 := hB2.trans (hC3.mono hB2.size)
  clear hB2 hC3
  go_wp2_with fail
  refine (tw_any 16 a n HA.out.1 HA.out.2.2.2 w3).mono ?_
  rintro e w4 ⟨rfl, hC4⟩
  have hB4 : Below w.heap.size w w4 := hB3.trans (hC4.mono hB3.size)
  clear hB3 hC4
  go_wp2_with fail
  refine (tw_any 3 (tw 16 a m) (tw 16 a n) (In64.tw HA.out.1 HA.out.2.2.1) (In64.tw HA.out.1 HA.out.2.2.2) w4).mono ?_
  rintro e w5 ⟨rfl, hC5⟩
  have hB5 : Below w.heap.size w w5 := hB4.trans (hC5.mono hB4.size)
  clear hB4 hC5
  go_wp2_with fail
  refine (tw_any 3 a b HA.out.1 HA.out.2.1 w5).mono ?_
  rintro e w6 ⟨rfl, hC6⟩
  have hB6 : Below w.heap.size w w6 := hB5.trans (hC6.mono hB5.size)
  clear hB5 hC6
  go_wp2_with fail
  refine (tw_any 16 (tw 3 a b) m (In64.tw HA.out.1 HA.out.2.1) HA.out.2.2.1 w6).mono ?_
  rintro e w7 ⟨rfl, hC7⟩
  have hB7 : Below w.heap.size w w7 := hB6.trans (hC7.mono hB6.size)
  clear hB6 hC7
  go_wp2_with fail
  refine (tw_any 16 a m HA.out.1 HA.out.2.2.1 w7).mono ?_
  rintro e w8 ⟨rfl, hC8⟩
  have hB8 : Below w.heap.size w w8 := hB7.trans (hC8.mono hB7.size)
  clear hB7 hC8
  go_wp2_with fail
  refine (tw_any 16 b m HA.out.2.1 HA.out.2.2.1 w8).mono ?_
  rintro e w9 ⟨rfl, hC9⟩
  have hB9 : Below w.heap.size w w9 := hB8.trans (hC9.mono hB8.size)
  clear hB8 hC9
  go_wp2_with fail
  refine (tw_any 3 (tw 16 a m) (tw 16 b m) (In64.tw HA.out.1 HA.out.2.2.1) (In64.tw HA.out.2.1 HA.out.2.2.1) w9).mono ?_
  rintro e w10 ⟨rfl, hC10⟩
  have hB10 : Below w.heap.size w w10 := hB9.trans (hC10.mono hB9.size)
  clear hB9 hC10
  go_wp2_with fail
  refine (tw_any 16 a m HA.out.1 HA.out.2.2.1 w10).mono ?_
  rintro e w11 ⟨rfl, hC11⟩
  have hB11 : Below w.heap.size w w11 := hB10.trans (hC11.mono hB10.size)
  clear hB10 hC11
  go_wp2_with fail
  refine (tw_any 16 (tw 16 a m) n (In64.tw HA.out.1 HA.out.2.2.1) HA.out.2.2.2 w11).mono ?_
  rintro e w12 ⟨rfl, hC12⟩
  have hB12 : Below w.heap.size w w12 := hB11.trans (hC12.mono hB11.size)
  clear hB11 hC12
  go_wp2_with fail
  refine (tw_any 16 a (wrap64 (m * n)) HA.out.1 (In64.w _) w12).mono ?_
  rintro e w13 ⟨rfl, hC13⟩
  have hB13 : Below w.heap.size w w13 := hB12.trans (hC13.mono hB12.size)
  clear hB12 hC13
  go_wp2_with fail
  go_ret
  exact ⟨rfl, hB13⟩
end Go.Proofs.Ytbfjhgmdndkmdab
