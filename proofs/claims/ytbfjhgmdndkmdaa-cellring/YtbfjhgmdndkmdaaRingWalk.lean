/-
  The walk of the statement on sums and products that run round.
-/
import Derived.Test.YtbfjhgmdndkmdaaTwos
import Derived.Test.YtbfjhgmdndkmdaaOne
namespace Go.Proofs.Ytbfjhgmdndkmdaa
open Go.RowKit
set_option linter.unusedVariables false

theorem one_2' (a : Int) (w : World) : Calls Try.prog 5 #[.int .i64 2, .int .i64 a] w fun e w' => e = .returned (.tuple #[.int .i64 (oneV 2 a), .nilIface]) ∧ w' = w := one_2 a w
theorem ov2 (a : Int) : oneV 2 a = wrap64 (-a) := by simp [oneV]
set_option maxRecDepth 100000 in
set_option maxHeartbeats 1000000 in
theorem ring_walk (a b c : Int) (ha : In64 a) (hb : In64 b) (hc : In64 c) (w : World) :
    Calls Try.prog 3 #[.int .i64 a, .int .i64 b, .int .i64 c] w fun e w' => e = .returned (.bool true) ∧ Below w.heap.size w w' := by
  have HA : Hid (In64 a ∧ In64 b ∧ In64 c) := ⟨ha, hb, hc⟩
  have HN : Hid (In64 (oneV 2 a)) := by show In64 _; rw [ov2]; exact In64.w _
  have t0 : (tw 1 2 3 != 5) = false := bne_of (by rw [tw1]; exact w_small (by decide) (by decide))
  have t1 : (tw 1 a b != tw 1 b a) = false := bne_of (by rw [tw1, tw1, Int.add_comm])
  have t2 : (tw 3 a b != tw 3 b a) = false := bne_of (by rw [tw3, tw3, Int.mul_comm])
  have t3 : (tw 1 (tw 1 a b) c != tw 1 a (tw 1 b c)) = false := bne_of (by rw [tw1, tw1, tw1, tw1, w_addl, w_addr, Int.add_assoc])
  have t4 : (tw 3 (tw 3 a b) c != tw 3 a (tw 3 b c)) = false := bne_of (by rw [tw3, tw3, tw3, tw3, w_mull, w_mulr, Int.mul_assoc])
  have t5 : (tw 3 a (tw 1 b c) != tw 1 (tw 3 a b) (tw 3 a c)) = false := bne_of (by rw [tw3, tw1, tw1, tw3, tw3, w_mulr, w_addl, w_addr, Int.mul_add])
  have t6 : (tw 1 a (oneV 2 a) == 0) = true := beq_of (by rw [tw1, ov2, w_addr, Int.add_right_neg]; exact w_small (by decide) (by decide))
  have t7 : (tw 2 (tw 1 a b) b == a) = true := beq_of (by rw [tw2, tw1, w_subl, Int.add_sub_cancel]; exact ha.same)
  have t8 : (tw 2 b a == tw 1 b (oneV 2 a)) = true := beq_of (by rw [tw2, tw1, ov2, w_addr, Int.sub_eq_add_neg])
  clear ha hb hc
  go_enter Try.func3, Try.ntmps3
  go_wp2_with fail
  refine (tw_any 1 2 3 (by unfold In64; decide) (by unfold In64; decide) w).mono ?_
  rintro e w1 ⟨rfl, hC1⟩
  have hB1 : Below w.heap.size w w1 := hC1
  go_wp2_with fail
  refine (tw_any 1 a b HA.out.1 HA.out.2.1 w1).mono ?_
  rintro e w2 ⟨rfl, hC2⟩
  have hB2 : Below w.heap.size w w2 := hB1.trans (hC2.mono hB1.size)
  clear hB1 hC2
  go_wp2_with fail
  refine (tw_any 1 b a HA.out.2.1 HA.out.1 w2).mono ?_
  rintro e w3 ⟨rfl, hC3⟩
  have hB3 : Below w.heap.size w w3 := hB2.trans (hC3.mono hB2.size)
  clear hB2 hC3
  go_wp2_with fail
  refine (tw_any 3 a b HA.out.1 HA.out.2.1 w3).mono ?_
  rintro e w4 ⟨rfl, hC4⟩
  have hB4 : Below w.heap.size w w4 := hB3.trans (hC4.mono hB3.size)
  clear hB3 hC4
  go_wp2_with fail
  refine (tw_any 3 b a HA.out.2.1 HA.out.1 w4).mono ?_
  rintro e w5 ⟨rfl, hC5⟩
  have hB5 : Below w.heap.size w w5 := hB4.trans (hC5.mono hB4.size)
  clear hB4 hC5
  go_wp2_with fail
  refine (tw_any 1 a b HA.out.1 HA.out.2.1 w5).mono ?_
  rintro e w6 ⟨rfl, hC6⟩
  have hB6 : Below w.heap.size w w6 := hB5.trans (hC6.mono hB5.size)
  clear hB5 hC6
  go_wp2_with fail
  refine (tw_any 1 (tw 1 a b) c (In64.tw HA.out.1 HA.out.2.1) HA.out.2.2 w6).mono ?_
  rintro e w7 ⟨rfl, hC7⟩
  have hB7 : Below w.heap.size w w7 := hB6.trans (hC7.mono hB6.size)
  clear hB6 hC7
  go_wp2_with fail
  refine (tw_any 1 b c HA.out.2.1 HA.out.2.2 w7).mono ?_
  rintro e w8 ⟨rfl, hC8⟩
  have hB8 : Below w.heap.size w w8 := hB7.trans (hC8.mono hB7.size)
  clear hB7 hC8
  go_wp2_with fail
  refine (tw_any 1 a (tw 1 b c) HA.out.1 (In64.tw HA.out.2.1 HA.out.2.2) w8).mono ?_
  rintro e w9 ⟨rfl, hC9⟩
  have hB9 : Below w.heap.size w w9 := hB8.trans (hC9.mono hB8.size)
  clear hB8 hC9
  go_wp2_with fail
  refine (tw_any 3 a b HA.out.1 HA.out.2.1 w9).mono ?_
  rintro e w10 ⟨rfl, hC10⟩
  have hB10 : Below w.heap.size w w10 := hB9.trans (hC10.mono hB9.size)
  clear hB9 hC10
  go_wp2_with fail
  refine (tw_any 3 (tw 3 a b) c (In64.tw HA.out.1 HA.out.2.1) HA.out.2.2 w10).mono ?_
  rintro e w11 ⟨rfl, hC11⟩
  have hB11 : Below w.heap.size w w11 := hB10.trans (hC11.mono hB10.size)
  clear hB10 hC11
  go_wp2_with fail
  refine (tw_any 3 b c HA.out.2.1 HA.out.2.2 w11).mono ?_
  rintro e w12 ⟨rfl, hC12⟩
  have hB12 : Below w.heap.size w w12 := hB11.trans (hC12.mono hB11.size)
  clear hB11 hC12
  go_wp2_with fail
  refine (tw_any 3 a (tw 3 b c) HA.out.1 (In64.tw HA.out.2.1 HA.out.2.2) w12).mono ?_
  rintro e w13 ⟨rfl, hC13⟩
  have hB13 : Below w.heap.size w w13 := hB12.trans (hC13.mono hB12.size)
  clear hB12 hC13
  go_wp2_with fail
  refine (tw_any 1 b c HA.out.2.1 HA.out.2.2 w13).mono ?_
  rintro e w14 ⟨rfl, hC14⟩
  have hB14 : Below w.heap.size w w14 := hB13.trans (hC14.mono hB13.size)
  clear hB13 hC14
  go_wp2_with fail
  refine (tw_any 3 a (tw 1 b c) HA.out.1 (In64.tw HA.out.2.1 HA.out.2.2) w14).mono ?_
  rintro e w15 ⟨rfl, hC15⟩
  have hB15 : Below w.heap.size w w15 := hB14.trans (hC15.mono hB14.size)
  clear hB14 hC15
  go_wp2_with fail
  refine (tw_any 3 a b HA.out.1 HA.out.2.1 w15).mono ?_
  rintro e w16 ⟨rfl, hC16⟩
  have hB16 : Below w.heap.size w w16 := hB15.trans (hC16.mono hB15.size)
  clear hB15 hC16
  go_wp2_with fail
  refine (tw_any 3 a c HA.out.1 HA.out.2.2 w16).mono ?_
  rintro e w17 ⟨rfl, hC17⟩
  have hB17 : Below w.heap.size w w17 := hB16.trans (hC17.mono hB16.size)
  clear hB16 hC17
  go_wp2_with fail
  refine (tw_any 1 (tw 3 a b) (tw 3 a c) (In64.tw HA.out.1 HA.out.2.1) (In64.tw HA.out.1 HA.out.2.2) w17).mono ?_
  rintro e w18 ⟨rfl, hC18⟩
  have hB18 : Below w.heap.size w w18 := hB17.trans (hC18.mono hB17.size)
  clear hB17 hC18
  go_wp2_with fail
  refine (one_2' a w18).mono ?_
  rintro e wx ⟨rfl, hw⟩
  subst hw
  go_wp2_with fail
  refine (tw_any 1 a (oneV 2 a) HA.out.1 HN.out wx).mono ?_
  rintro e w19 ⟨rfl, hC19⟩
  have hB19 : Below w.heap.size w w19 := hB18.trans (hC19.mono hB18.size)
  clear hB18 hC19
  go_wp2_with fail
  refine (tw_any 1 a b HA.out.1 HA.out.2.1 w19).mono ?_
  rintro e w20 ⟨rfl, hC20⟩
  have hB20 : Below w.heap.size w w20 := hB19.trans (hC20.mono hB19.size)
  clear hB19 hC20
  go_wp2_with fail
  refine (tw_any 2 (tw 1 a b) b (In64.tw HA.out.1 HA.out.2.1) HA.out.2.1 w20).mono ?_
  rintro e w21 ⟨rfl, hC21⟩
  have hB21 : Below w.heap.size w w21 := hB20.trans (hC21.mono hB20.size)
  clear hB20 hC21
  go_wp2_with fail
  refine (tw_any 2 b a HA.out.2.1 HA.out.1 w21).mono ?_
  rintro e w22 ⟨rfl, hC22⟩
  have hB22 : Below w.heap.size w w22 := hB21.trans (hC22.mono hB21.size)
  clear hB21 hC22
  go_wp2_with fail
  refine (tw_any 1 b (oneV 2 a) HA.out.2.1 HN.out w22).mono ?_
  rintro e w23 ⟨rfl, hC23⟩
  have hB23 : Below w.heap.size w w23 := hB22.trans (hC23.mono hB22.size)
  clear hB22 hC23
  go_wp2_with fail
  go_ret
  exact ⟨rfl, hB23⟩
end Go.Proofs.Ytbfjhgmdndkmdaa
