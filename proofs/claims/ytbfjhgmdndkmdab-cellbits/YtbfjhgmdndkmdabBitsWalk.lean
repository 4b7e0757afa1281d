/-
  The walk of the statement on bits.
-/
import Derived.Test.YtbfjhgmdndkmdabTwos
import Derived.Test.YtbfjhgmdndkmdabBitm
namespace Go.Proofs.Ytbfjhgmdndkmdab
open Go.RowKit
set_option linter.unusedVariables false

theorem bits_facts {a b : Int} (ha : In64 a) (hb : In64 b) : (tw 14 (tw 2 (-1) a) (tw 2 (-1) b)) = (tw 2 (-1) (tw 15 a b)) ∧ (tw 15 (tw 2 (-1) a) (tw 2 (-1) b)) = (tw 2 (-1) (tw 14 a b)) ∧ (tw 15 a (tw 14 a b)) = a ∧ (tw 14 a (tw 15 a b)) = a ∧ (tw 14 a (tw 2 (-1) a)) = 0 ∧ (tw 15 a (tw 2 (-1) a)) = (-1) ∧ (tw 1 a b) = (tw 1 (tw 14 a b) (tw 15 a b)) := by
  obtain ⟨x, rfl⟩ := bv_of ha
  obtain ⟨y, rfl⟩ := bv_of hb
  simp only [tw14, tw15, tw2, tw1, bnot_bv, band_bv, bor_bv, add_bv, and_or_bv, or_abs, and_abs, and_not, or_not, BitVec.not_or, BitVec.not_and, and_self]
set_option maxRecDepth 100000 in
set_option maxHeartbeats 1000000 in
theorem bits_walk (a b : Int) (ha : In64 a) (hb : In64 b) (w : World) :
    Calls Try.prog 3 #[.int .i64 a, .int .i64 b] w fun e w' => e = .returned (.bool true) ∧ Below w.heap.size w w' := by
  have HA : Hid (In64 a ∧ In64 b) := ⟨ha, hb⟩
  have t0 : (tw 14 6 3 != 2) = false := by decide +kernel
  obtain ⟨f1, f2, f3, f4, f5, f6, f7⟩ := bits_facts ha hb
  have t1 : ((tw 14 (tw 2 (-1) a) (tw 2 (-1) b)) != (tw 2 (-1) (tw 15 a b))) = false := bne_of f1
  have t2 : ((tw 15 (tw 2 (-1) a) (tw 2 (-1) b)) != (tw 2 (-1) (tw 14 a b))) = false := bne_of f2
  have t3 : ((tw 15 a (tw 14 a b)) != a) = false := bne_of f3
  have t4 : ((tw 14 a (tw 15 a b)) != a) = false := bne_of f4
  have t5 : ((tw 14 a (tw 2 (-1) a)) != 0) = false := bne_of f5
  have t6 : ((tw 15 a (tw 2 (-1) a)) != (-1)) = false := bne_of f6
  have t7 : ((tw 1 a b) == (tw 1 (tw 14 a b) (tw 15 a b))) = true := beq_of f7
  clear f1 f2 f3 f4 f5 f6 f7 ha hb
  go_enter Try.func3, Try.ntmps3
  go_wp2_with fail
  refine (tw_any 14 6 3 (by unfold In64; decide) (by unfold In64; decide) w).mono ?_
  rintro e w1 ⟨rfl, hC1⟩
  have hB1 : Below w.heap.size w w1 := hC1
  go_wp2_with fail
  refine (tw_any 2 (-1) a (by unfold In64; decide) HA.out.1 w1).mono ?_
  rintro e w2 ⟨rfl, hC2⟩
  have hB2 : Below w.heap.size w w2 := hB1.trans (hC2.mono hB1.size)
  clear hB1 hC2
  go_wp2_with fail
  refine (tw_any 2 (-1) b (by unfold In64; decide) HA.out.2 w2).mono ?_
  rintro e w3 ⟨rfl, hC3⟩
  have hB3 : Below w.heap.size w w3 := hB2.trans (hC3.mono hB2.size)
  clear hB2 hC3
  go_wp2_with fail
  refine (tw_any 14 (tw 2 (-1) a) (tw 2 (-1) b) (In64.tw (by unfold In64; decide) HA.out.1) (In64.tw (by unfold In64; decide) HA.out.2) w3).mono ?_
  rintro e w4 ⟨rfl, hC4⟩
  have hB4 : Below w.heap.size w w4 := hB3.trans (hC4.mono hB3.size)
  clear hB3 hC4
  go_wp2_with fail
  refine (tw_any 15 a b HA.out.1 HA.out.2 w4).mono ?_
  rintro e w5 ⟨rfl, hC5⟩
  have hB5 : Below w.heap.size w w5 := hB4.trans (hC5.mono hB4.size)
  clear hB4 hC5
  go_wp2_with fail
  refine (tw_any 2 (-1) (tw 15 a b) (by unfold In64; decide) (In64.tw HA.out.1 HA.out.2) w5).mono ?_
  rintro e w6 ⟨rfl, hC6⟩
  have hB6 : Below w.heap.size w w6 := hB5.trans (hC6.mono hB5.size)
  clear hB5 hC6
  go_wp2_with fail
  refine (tw_any 15 (tw 2 (-1) a) (tw 2 (-1) b) (In64.tw (by unfold In64; decide) HA.out.1) (In64.tw (by unfold In64; decide) HA.out.2) w6).mono ?_
  rintro e w7 ⟨rfl, hC7⟩
  have hB7 : Below w.heap.size w w7 := hB6.trans (hC7.mono hB6.size)
  clear hB6 hC7
  go_wp2_with fail
  refine (tw_any 14 a b HA.out.1 HA.out.2 w7).mono ?_
  rintro e w8 ⟨rfl, hC8⟩
  have hB8 : Below w.heap.size w w8 := hB7.trans (hC8.mono hB7.size)
  clear hB7 hC8
  go_wp2_with fail
  refine (tw_any 2 (-1) (tw 14 a b) (by unfold In64; decide) (In64.tw HA.out.1 HA.out.2) w8).mono ?_
  rintro e w9 ⟨rfl, hC9⟩
  have hB9 : Below w.heap.size w w9 := hB8.trans (hC9.mono hB8.size)
  clear hB8 hC9
  go_wp2_with fail
  refine (tw_any 14 a b HA.out.1 HA.out.2 w9).mono ?_
  rintro e w10 ⟨rfl, hC10⟩
  have hB10 : Below w.heap.size w w10 := hB9.trans (hC10.mono hB9.size)
  clear hB9 hC10
  go_wp2_with fail
  refine (tw_any 15 a (tw 14 a b) HA.out.1 (In64.tw HA.out.1 HA.out.2) w10).mono ?_
  rintro e w11 ⟨rfl, hC11⟩
  have hB11 : Below w.heap.size w w11 := hB10.trans (hC11.mono hB10.size)
  clear hB10 hC11
  go_wp2_with fail
  refine (tw_any 15 a b HA.out.1 HA.out.2 w11).mono ?_
  rintro e w12 ⟨rfl, hC12⟩
  have hB12 : Below w.heap.size w w12 := hB11.trans (hC12.mono hB11.size)
  clear hB11 hC12
  go_wp2_with fail
  refine (tw_any 14 a (tw 15 a b) HA.out.1 (In64.tw HA.out.1 HA.out.2) w12).mono ?_
  rintro e w13 ⟨rfl, hC13⟩
  have hB13 : Below w.heap.size w w13 := hB12.trans (hC13.mono hB12.size)
  clear hB12 hC13
  go_wp2_with fail
  refine (tw_any 14 a (tw 2 (-1) a) HA.out.1 (In64.tw (by unfold In64; decide) HA.out.1) w13).mono ?_
  rintro e w14 ⟨rfl, hC14⟩
  have hB14 : Below w.heap.size w w14 := hB13.trans (hC14.mono hB13.size)
  clear hB13 hC14
  go_wp2_with fail
  refine (tw_any 15 a (tw 2 (-1) a) HA.out.1 (In64.tw (by unfold In64; decide) HA.out.1) w14).mono ?_
  rintro e w15 ⟨rfl, hC15⟩
  have hB15 : Below w.heap.size w w15 := hB14.trans (hC15.mono hB14.size)
  clear hB14 hC15
  go_wp2_with fail
  refine (tw_any 1 a b HA.out.1 HA.out.2 w15).mono ?_
  rintro e w16 ⟨rfl, hC16⟩
  have hB16 : Below w.heap.size w w16 := hB15.trans (hC16.mono hB15.size)
  clear hB15 hC16
  go_wp2_with fail
  refine (tw_any 14 a b HA.out.1 HA.out.2 w16).mono ?_
  rintro e w17 ⟨rfl, hC17⟩
  have hB17 : Below w.heap.size w w17 := hB16.trans (hC17.mono hB16.size)
  clear hB16 hC17
  go_wp2_with fail
  refine (tw_any 15 a b HA.out.1 HA.out.2 w17).mono ?_
  rintro e w18 ⟨rfl, hC18⟩
  have hB18 : Below w.heap.size w w18 := hB17.trans (hC18.mono hB17.size)
  clear hB17 hC18
  go_wp2_with fail
  refine (tw_any 1 (tw 14 a b) (tw 15 a b) (In64.tw HA.out.1 HA.out.2) (In64.tw HA.out.1 HA.out.2) w18).mono ?_
  rintro e w19 ⟨rfl, hC19⟩
  have hB19 : Below w.heap.size w w19 := hB18.trans (hC19.mono hB18.size)
  clear hB18 hC19
  go_wp2_with fail
  go_ret
  exact ⟨rfl, hB19⟩
end Go.Proofs.Ytbfjhgmdndkmdab
