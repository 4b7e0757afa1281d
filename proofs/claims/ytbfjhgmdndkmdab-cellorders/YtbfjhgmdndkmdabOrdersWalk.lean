/-
  The walk of the statement on the order of numbers.
-/
import Derived.Test.YtbfjhgmdndkmdabTwos
namespace Go.Proofs.Ytbfjhgmdndkmdab
open Go.RowKit
set_option linter.unusedVariables false

theorem ifV_t {p : Prop} [Decidable p] (h : p) : ifV (decide p) = 1 := by simp [ifV, h]
theorem ifV_f {p : Prop} [Decidable p] (h : ¬ p) : ifV (decide p) = 0 := by simp [ifV, h]
theorem beq_dec (a b : Int) : (a == b) = decide (a = b) := by by_cases h : a = b <;> simp [h]
theorem bne_dec (a b : Int) : (a != b) = decide (a ≠ b) := by by_cases h : a = b <;> simp [h]
theorem ifV_if (p : Prop) [Decidable p] : ifV (decide p) = if p then 1 else 0 := by by_cases h : p <;> simp [ifV, h]
theorem orders_facts (a b c : Int) : wrap64 (wrap64 (tw 10 a b + tw 8 a b) + tw 13 a b) = 1 ∧ (tw 11 a b) = wrap64 (1 - tw 13 a b) ∧ (tw 12 a b) = wrap64 (1 - tw 10 a b) ∧ (tw 9 a b) = wrap64 (1 - tw 8 a b) ∧ (tw 8 (tw 6 a b) b) = (tw 11 a b) ∧ (tw 8 (tw 7 a b) a) = (tw 11 a b) ∧ (tw 6 a b) = (tw 6 b a) ∧ (tw 7 a b) = (tw 7 b a) ∧ (tw 6 (tw 6 a b) c) = (tw 6 a (tw 6 b c)) ∧ (tw 7 (tw 7 a b) c) = (tw 7 a (tw 7 b c)) ∧ (tw 6 a (tw 7 a b)) = a ∧ (tw 7 a (tw 6 a b)) = a ∧ (tw 6 a (tw 7 b c)) = (tw 7 (tw 6 a b) (tw 6 a c)) := by
  simp only [tw6, tw7, tw8, tw9, tw10, tw11, tw12, tw13, beq_dec, bne_dec, ifV_if]
  refine ⟨?_, ?_, ?_, ?_, ?_, ?_, ?_, ?_, ?_, ?_, ?_, ?_, ?_⟩
  · rcases (by omega : a < b ∨ a = b ∨ b < a) with h | h | h
    · rw [if_pos h, if_neg (by omega), if_neg (by omega)]; decide +kernel
    · rw [if_neg (by omega), if_pos h, if_neg (by omega)]; decide +kernel
    · rw [if_neg (by omega), if_neg (by omega), if_pos h]; decide +kernel
  · by_cases h : b < a
    · rw [if_neg (by omega), if_pos h]; decide +kernel
    · rw [if_pos (by omega), if_neg h]; decide +kernel
  · by_cases h : a < b
    · rw [if_neg (by omega), if_pos h]; decide +kernel
    · rw [if_pos (by omega), if_neg h]; decide +kernel
  · by_cases h : a = b
    · rw [if_neg (by simpa using h), if_pos h]; decide +kernel
    · rw [if_pos h, if_neg h]; decide +kernel
  · by_cases h : a ≤ b
    · rw [if_pos (by omega), if_pos h]
    · rw [if_neg (by omega), if_neg h]
  · by_cases h : a ≤ b
    · rw [if_pos (by omega), if_pos h]
    · rw [if_neg (by omega), if_neg h]
  all_goals omega
set_option maxRecDepth 100000 in
set_option maxHeartbeats 1000000 in
theorem orders_walk (a b c : Int) (ha : In64 a) (hb : In64 b) (hc : In64 c) (w : World) :
    Calls Try.prog 4 #[.int .i64 a, .int .i64 b, .int .i64 c] w fun e w' => e = .returned (.bool true) ∧ Below w.heap.size w w' := by
  have HA : Hid (In64 a ∧ In64 b ∧ In64 c) := ⟨ha, hb, hc⟩
  have t0 : (tw 6 (-3) 2 != 2) = false := by decide +kernel
  obtain ⟨f1, f2, f3, f4, f5, f6, f7, f8, f9, f10, f11, f12, f13⟩ := orders_facts a b c
  have t1 : (wrap64 (wrap64 (tw 10 a b + tw 8 a b) + tw 13 a b) != 1) = false := bne_of f1
  have t2 : ((tw 11 a b) != wrap64 (1 - tw 13 a b)) = false := bne_of f2
  have t3 : ((tw 12 a b) != wrap64 (1 - tw 10 a b)) = false := bne_of f3
  have t4 : ((tw 9 a b) != wrap64 (1 - tw 8 a b)) = false := bne_of f4
  have t5 : ((tw 8 (tw 6 a b) b) != (tw 11 a b)) = false := bne_of f5
  have t6 : ((tw 8 (tw 7 a b) a) != (tw 11 a b)) = false := bne_of f6
  have t7 : ((tw 6 a b) != (tw 6 b a)) = false := bne_of f7
  have t8 : ((tw 7 a b) != (tw 7 b a)) = false := bne_of f8
  have t9 : ((tw 6 (tw 6 a b) c) != (tw 6 a (tw 6 b c))) = false := bne_of f9
  have t10 : ((tw 7 (tw 7 a b) c) != (tw 7 a (tw 7 b c))) = false := bne_of f10
  have t11 : ((tw 6 a (tw 7 a b)) != a) = false := bne_of f11
  have t12 : ((tw 7 a (tw 6 a b)) != a) = false := bne_of f12
  have t13 : ((tw 6 a (tw 7 b c)) == (tw 7 (tw 6 a b) (tw 6 a c))) = true := beq_of f13
  clear f1 f2 f3 f4 f5 f6 f7 f8 f9 f10 f11 f12 f13 ha hb hc
  go_enter Try.func4, Try.ntmps4
  go_wp2_with fail
  refine (tw_any 6 (-3) 2 (by unfold In64; decide) (by unfold In64; decide) w).mono ?_
  rintro e w1 ⟨rfl, hC1⟩
  have hB1 : Below w.heap.size w w1 := hC1
  go_wp2_with fail
  refine (tw_any 10 a b HA.out.1 HA.out.2.1 w1).mono ?_
  rintro e w2 ⟨rfl, hC2⟩
  have hB2 : Below w.heap.size w w2 := hB1.trans (hC2.mono hB1.size)
  clear hB1 hC2
  go_wp2_with fail
  refine (tw_any 8 a b HA.out.1 HA.out.2.1 w2).mono ?_
  rintro e w3 ⟨rfl, hC3⟩
  have hB3 : Below w.heap.size w w3 := hB2.trans (hC3.mono hB2.size)
  clear hB2 hC3
  go_wp2_with fail
  refine (tw_any 13 a b HA.out.1 HA.out.2.1 w3).mono ?_
  rintro e w4 ⟨rfl, hC4⟩
  have hB4 : Below w.heap.size w w4 := hB3.trans (hC4.mono hB3.size)
  clear hB3 hC4
  go_wp2_with fail
  refine (tw_any 11 a b HA.out.1 HA.out.2.1 w4).mono ?_
  rintro e w5 ⟨rfl, hC5⟩
  have hB5 : Below w.heap.size w w5 := hB4.trans (hC5.mono hB4.size)
  clear hB4 hC5
  go_wp2_with fail
  refine (tw_any 13 a b HA.out.1 HA.out.2.1 w5).mono ?_
  rintro e w6 ⟨rfl, hC6⟩
  have hB6 : Below w.heap.size w w6 := hB5.trans (hC6.mono hB5.size)
  clear hB5 hC6
  go_wp2_with fail
  refine (tw_any 12 a b HA.out.1 HA.out.2.1 w6).mono ?_
  rintro e w7 ⟨rfl, hC7⟩
  have hB7 : Below w.heap.size w w7 := hB6.trans (hC7.mono hB6.size)
  clear hB6 hC7
  go_wp2_with fail
  refine (tw_any 10 a b HA.out.1 HA.out.2.1 w7).mono ?_
  rintro e w8 ⟨rfl, hC8⟩
  have hB8 : Below w.heap.size w w8 := hB7.trans (hC8.mono hB7.size)
  clear hB7 hC8
  go_wp2_with fail
  refine (tw_any 9 a b HA.out.1 HA.out.2.1 w8).mono ?_
  rintro e w9 ⟨rfl, hC9⟩
  have hB9 : Below w.heap.size w w9 := hB8.trans (hC9.mono hB8.size)
  clear hB8 hC9
  go_wp2_with fail
  refine (tw_any 8 a b HA.out.1 HA.out.2.1 w9).mono ?_
  rintro e w10 ⟨rfl, hC10⟩
  have hB10 : Below w.heap.size w w10 := hB9.trans (hC10.mono hB9.size)
  clear hB9 hC10
  go_wp2_with fail
  refine (tw_any 6 a b HA.out.1 HA.out.2.1 w10).mono ?_
  rintro e w11 ⟨rfl, hC11⟩
  have hB11 : Below w.heap.size w w11 := hB10.trans (hC11.mono hB10.size)
  clear hB10 hC11
  go_wp2_with fail
  refine (tw_any 7 a b HA.out.1 HA.out.2.1 w11).mono ?_
  rintro e w12 ⟨rfl, hC12⟩
  have hB12 : Below w.heap.size w w12 := hB11.trans (hC12.mono hB11.size)
  clear hB11 hC12
  go_wp2_with fail
  refine (tw_any 8 (tw 6 a b) b (In64.tw HA.out.1 HA.out.2.1) HA.out.2.1 w12).mono ?_
  rintro e w13 ⟨rfl, hC13⟩
  have hB13 : Below w.heap.size w w13 := hB12.trans (hC13.mono hB12.size)
  clear hB12 hC13
  go_wp2_with fail
  refine (tw_any 11 a b HA.out.1 HA.out.2.1 w13).mono ?_
  rintro e w14 ⟨rfl, hC14⟩
  have hB14 : Below w.heap.size w w14 := hB13.trans (hC14.mono hB13.size)
  clear hB13 hC14
  go_wp2_with fail
  refine (tw_any 8 (tw 7 a b) a (In64.tw HA.out.1 HA.out.2.1) HA.out.1 w14).mono ?_
  rintro e w15 ⟨rfl, hC15⟩
  have hB15 : Below w.heap.size w w15 := hB14.trans (hC15.mono hB14.size)
  clear hB14 hC15
  go_wp2_with fail
  refine (tw_any 11 a b HA.out.1 HA.out.2.1 w15).mono ?_
  rintro e w16 ⟨rfl, hC16⟩
  have hB16 : Below w.heap.size w w16 := hB15.trans (hC16.mono hB15.size)
  clear hB15 hC16
  go_wp2_with fail
  refine (tw_any 6 b a HA.out.2.1 HA.out.1 w16).mono ?_
  rintro e w17 ⟨rfl, hC17⟩
  have hB17 : Below w.heap.size w w17 := hB16.trans (hC17.mono hB16.size)
  clear hB16 hC17
  go_wp2_with fail
  refine (tw_any 7 b a HA.out.2.1 HA.out.1 w17).mono ?_
  rintro e w18 ⟨rfl, hC18⟩
  have hB18 : Below w.heap.size w w18 := hB17.trans (hC18.mono hB17.size)
  clear hB17 hC18
  go_wp2_with fail
  refine (tw_any 6 (tw 6 a b) c (In64.tw HA.out.1 HA.out.2.1) HA.out.2.2 w18).mono ?_
  rintro e w19 ⟨rfl, hC19⟩
  have hB19 : Below w.heap.size w w19 := hB18.trans (hC19.mono hB18.size)
  clear hB18 hC19
  go_wp2_with fail
  refine (tw_any 6 b c HA.out.2.1 HA.out.2.2 w19).mono ?_
  rintro e w20 ⟨rfl, hC20⟩
  have hB20 : Below w.heap.size w w20 := hB19.trans (hC20.mono hB19.size)
  clear hB19 hC20
  go_wp2_with fail
  refine (tw_any 6 a (tw 6 b c) HA.out.1 (In64.tw HA.out.2.1 HA.out.2.2) w20).mono ?_
  rintro e w21 ⟨rfl, hC21⟩
  have hB21 : Below w.heap.size w w21 := hB20.trans (hC21.mono hB20.size)
  clear hB20 hC21
  go_wp2_with fail
  refine (tw_any 7 (tw 7 a b) c (In64.tw HA.out.1 HA.out.2.1) HA.out.2.2 w21).mono ?_
  rintro e w22 ⟨rfl, hC22⟩
  have hB22 : Below w.heap.size w w22 := hB21.trans (hC22.mono hB21.size)
  clear hB21 hC22
  go_wp2_with fail
  refine (tw_any 7 b c HA.out.2.1 HA.out.2.2 w22).mono ?_
  rintro e w23 ⟨rfl, hC23⟩
  have hB23 : Below w.heap.size w w23 := hB22.trans (hC23.mono hB22.size)
  clear hB22 hC23
  go_wp2_with fail
  refine (tw_any 7 a (tw 7 b c) HA.out.1 (In64.tw HA.out.2.1 HA.out.2.2) w23).mono ?_
  rintro e w24 ⟨rfl, hC24⟩
  have hB24 : Below w.heap.size w w24 := hB23.trans (hC24.mono hB23.size)
  clear hB23 hC24
  go_wp2_with fail
  refine (tw_any 6 a (tw 7 a b) HA.out.1 (In64.tw HA.out.1 HA.out.2.1) w24).mono ?_
  rintro e w25 ⟨rfl, hC25⟩
  have hB25 : Below w.heap.size w w25 := hB24.trans (hC25.mono hB24.size)
  clear hB24 hC25
  go_wp2_with fail
  refine (tw_any 7 a (tw 6 a b) HA.out.1 (In64.tw HA.out.1 HA.out.2.1) w25).mono ?_
  rintro e w26 ⟨rfl, hC26⟩
  have hB26 : Below w.heap.size w w26 := hB25.trans (hC26.mono hB25.size)
  clear hB25 hC26
  go_wp2_with fail
  refine (tw_any 7 b c HA.out.2.1 HA.out.2.2 w26).mono ?_
  rintro e w27 ⟨rfl, hC27⟩
  have hB27 : Below w.heap.size w w27 := hB26.trans (hC27.mono hB26.size)
  clear hB26 hC27
  go_wp2_with fail
  refine (tw_any 6 a (tw 7 b c) HA.out.1 (In64.tw HA.out.2.1 HA.out.2.2) w27).mono ?_
  rintro e w28 ⟨rfl, hC28⟩
  have hB28 : Below w.heap.size w w28 := hB27.trans (hC28.mono hB27.size)
  clear hB27 hC28
  go_wp2_with fail
  refine (tw_any 6 a c HA.out.1 HA.out.2.2 w28).mono ?_
  rintro e w29 ⟨rfl, hC29⟩
  have hB29 : Below w.heap.size w w29 := hB28.trans (hC29.mono hB28.size)
  clear hB28 hC29
  go_wp2_with fail
  refine (tw_any 7 (tw 6 a b) (tw 6 a c) (In64.tw HA.out.1 HA.out.2.1) (In64.tw HA.out.1 HA.out.2.2) w29).mono ?_
  rintro e w30 ⟨rfl, hC30⟩
  have hB30 : Below w.heap.size w w30 := hB29.trans (hC30.mono hB29.size)
  clear hB29 hC30
  go_wp2_with fail
  go_ret
  exact ⟨rfl, hB30⟩
end Go.Proofs.Ytbfjhgmdndkmdab
