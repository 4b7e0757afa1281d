/-
  The walk of the statement on quotient and rest.
-/
import Derived.Test.YtbfjhgmdndkmdaaDoorErr
import Derived.Test.YtbfjhgmdndkmdaaDoorTwos
namespace Go.Proofs.YtbfjhgmdndkmdaaDoor
open Go.RowKit
set_option linter.unusedVariables false

theorem two_4z (a : Int) (w : World) : Calls Tryd.prog 12 #[.int .i64 4, .int .i64 a, .int .i64 0] w fun e w' => e = .returned (.tuple #[.int .i64 0, errV 6]) ∧ Below w.heap.size w w' :=
  (two_4 a 0 w).mono fun e w' ⟨h1, h2⟩ => ⟨by rw [h1]; exact ret2 (by simp [twoV]) (by simp [twoE]), h2⟩
theorem two_4n (a b : Int) (h : b ≠ 0) (w : World) : Calls Tryd.prog 12 #[.int .i64 4, .int .i64 a, .int .i64 b] w fun e w' => e = .returned (.tuple #[.int .i64 (divV a b), .nilIface]) ∧ Below w.heap.size w w' :=
  (two_4 a b w).mono fun e w' ⟨h1, h2⟩ => ⟨by rw [h1]; exact ret2 (tv4 a b h) (by rw [te0 (by decide) (by decide) (fun _ => h) (fun h => absurd h (by decide))]; rfl), h2⟩
theorem quo_rest {a b : Int} (ha : In64 a) (hb : In64 b) : wrap64 (wrap64 (b * divV a b) + tw 5 b a) = a := by
  unfold divV
  rw [tw5, w_mulr, w_addl, Int.add_comm, Int.fmod_add_mul_fdiv]
  exact ha.same
set_option maxRecDepth 100000 in
set_option maxHeartbeats 1000000 in
theorem divides_zero (a : Int) (ha : In64 a) (w : World) (hg : HasErr w) : Calls Tryd.prog 7 #[.int .i64 a, .int .i64 0] w fun e w' => e = .returned (.bool true) ∧ Below w.heap.size w w' := by
  have HG : Hid (HasErr w) := hg
  have HA : Hid (In64 a) := ha
  have t0 : (tw 5 3 (-7) != 2) = false := by decide +kernel
  have t1 : (tw 5 0 a == a) = true := beq_of (by rw [tw5, Int.fmod_zero])
  clear hg ha
  go_enter Tryd.func7, Tryd.ntmps7
  go_wp2_with fail
  refine (tw_any 5 3 (-7) (by unfold In64; decide) (by unfold In64; decide) w).mono ?_
  rintro e w1 ⟨rfl, hB1⟩
  go_wp2_with fail
  refine (two_4z a w1).mono ?_
  rintro e w2 ⟨rfl, hC2⟩
  have hB2 : Below w.heap.size w w2 := hB1.trans (hC2.mono hB1.size)
  go_wp2_with fail
  refine (error_same 6 w2 (HG.out.below hB2 HG.out.pos)).mono ?_
  rintro e w3 ⟨rfl, hC3⟩
  have hB3 : Below w.heap.size w w3 := hB2.trans (hC3.mono hB2.size)
  go_wp2_with fail
  refine (tw_any 5 0 a (by unfold In64; decide) HA.out w3).mono ?_
  rintro e w4 ⟨rfl, hC4⟩
  have hB4 : Below w.heap.size w w4 := hB3.trans (hC4.mono hB3.size)
  go_wp2_with fail
  go_ret
  exact ⟨rfl, hB4⟩
set_option maxRecDepth 100000 in
set_option maxHeartbeats 1000000 in
theorem divides_other (a b : Int) (ha : In64 a) (hb : In64 b) (h0 : b ≠ 0) (w : World) (hg : HasErr w) : Calls Tryd.prog 7 #[.int .i64 a, .int .i64 b] w fun e w' => e = .returned (.bool true) ∧ Below w.heap.size w w' := by
  have HG : Hid (HasErr w) := hg
  have HA : Hid (In64 a ∧ In64 b ∧ b ≠ 0) := ⟨ha, hb, h0⟩
  have t0 : (tw 5 3 (-7) != 2) = false := by decide +kernel
  have tb : (b == 0) = false := by simp [h0]
  have t1 : (wrap64 (wrap64 (b * divV a b) + tw 5 b a) != a) = false := bne_of (quo_rest ha hb)
  by_cases hp : 0 < b
  · have tp : decide (0 < b) = true := by simp [hp]
    have t2 : decide (0 ≤ tw 5 b a) = true := by rw [tw5]; simp [(fmod_pos (a := a) hp).1]
    have t3 : decide (tw 5 b a < b) = true := by rw [tw5]; simp [(fmod_pos (a := a) hp).2]
    clear hp hg ha hb h0
    go_enter Tryd.func7, Tryd.ntmps7
    go_wp2_with fail
    refine (tw_any 5 3 (-7) (by unfold In64; decide) (by unfold In64; decide) w).mono ?_
    rintro e w1 ⟨rfl, hB1⟩
    go_wp2_with fail
    refine (two_4n a b HA.out.2.2 w1).mono ?_
    rintro e w2 ⟨rfl, hC2⟩
    have hB2 : Below w.heap.size w w2 := hB1.trans (hC2.mono hB1.size)
    go_wp2_with fail
    refine (tw_any 5 b a HA.out.2.1 HA.out.1 w2).mono ?_
    rintro e w4 ⟨rfl, hC4⟩
    have hB4 : Below w.heap.size w w4 := hB2.trans (hC4.mono hB2.size)
    go_wp2_with fail
    go_ret
    exact ⟨rfl, hB4⟩
  · have tp : decide (0 < b) = false := by simp; omega
    have hn : b < 0 := by omega
    have t2 : decide (tw 5 b a ≤ 0) = true := by rw [tw5]; simp [(fmod_neg (a := a) hn).1]
    have t3 : decide (b < tw 5 b a) = true := by rw [tw5]; simp [(fmod_neg (a := a) hn).2]
    clear hn
    clear hp hg ha hb h0
    go_enter Tryd.func7, Tryd.ntmps7
    go_wp2_with fail
    refine (tw_any 5 3 (-7) (by unfold In64; decide) (by unfold In64; decide) w).mono ?_
    rintro e w1 ⟨rfl, hB1⟩
    go_wp2_with fail
    refine (two_4n a b HA.out.2.2 w1).mono ?_
    rintro e w2 ⟨rfl, hC2⟩
    have hB2 : Below w.heap.size w w2 := hB1.trans (hC2.mono hB1.size)
    go_wp2_with fail
    refine (tw_any 5 b a HA.out.2.1 HA.out.1 w2).mono ?_
    rintro e w4 ⟨rfl, hC4⟩
    have hB4 : Below w.heap.size w w4 := hB2.trans (hC4.mono hB2.size)
    go_wp2_with fail
    go_ret
    exact ⟨rfl, hB4⟩
theorem divides_walk (a b : Int) (ha : In64 a) (hb : In64 b) (w : World) (hg : HasErr w) : Calls Tryd.prog 7 #[.int .i64 a, .int .i64 b] w fun e w' => e = .returned (.bool true) ∧ Below w.heap.size w w' := by
  by_cases h : b = 0
  · subst h; exact divides_zero a ha w hg
  · exact divides_other a b ha hb h w hg
end Go.Proofs.YtbfjhgmdndkmdaaDoor
