/-
  The walk of the statement on what divides two numbers.
-/
import Derived.Test.YteiohkajbokekaaBez
namespace Go.Proofs.Yteiohkajbokekaa
open Go.RowKit
set_option linter.unusedVariables false

theorem tmod_of_dvd {a g : Int} (h : g ∣ a) : a.tmod g = 0 := Int.tmod_eq_zero_of_dvd h
theorem dvd_of_tmod {a d : Int} (h : a.tmod d = 0) : d ∣ a := Int.dvd_of_tmod_eq_zero h
theorem bez_fact : bz1 12 (-18) = 6 := by decide +kernel
theorem in63_of {a : Int} (h : In64 a) (hn : a ≠ -9223372036854775808) : In63 a := by unfold In63 In64 at *; omega

set_option maxRecDepth 100000 in
set_option maxHeartbeats 1000000 in
theorem euclid_no (a b d : Int) (h : a = -9223372036854775808 ∨ b = -9223372036854775808) (w : World) :
    Calls Try.prog 3 #[.int .i64 a, .int .i64 b, .int .i64 d] w fun e w' => e = .returned (.bool true) ∧ Below w.heap.size w w' := by
  have H : Hid (a = -9223372036854775808 ∨ b = -9223372036854775808) := h
  have t0 : (bz1 12 (-18) != 6) = false := bne_of bez_fact
  by_cases ha : a = -9223372036854775808
  · have t1 : (a == -9223372036854775808) = true := by simp [ha]
    clear h ha
    go_enter Try.func3, Try.ntmps3
    go_wp2_with fail
    refine (bez_ok 12 (-18) (by unfold In63; decide) (by unfold In63; decide) w).mono ?_
    rintro e w1 ⟨rfl, hB1⟩
    go_wp2_with fail
    refine (bez_no a b H.out w1).mono ?_
    rintro e w2 ⟨rfl, hw⟩
    subst hw
    go_wp2_with fail
    go_ret
    exact ⟨rfl, hB1⟩
  · have t1 : (a == -9223372036854775808) = false := by simp [ha]
    have t2 : (b == -9223372036854775808) = true := by simp [h.resolve_left ha]
    clear h ha
    go_enter Try.func3, Try.ntmps3
    go_wp2_with fail
    refine (bez_ok 12 (-18) (by unfold In63; decide) (by unfold In63; decide) w).mono ?_
    rintro e w1 ⟨rfl, hB1⟩
    go_wp2_with fail
    refine (bez_no a b H.out w1).mono ?_
    rintro e w2 ⟨rfl, hw⟩
    subst hw
    go_wp2_with fail
    go_ret
    exact ⟨rfl, hB1⟩

set_option maxRecDepth 100000 in
set_option maxHeartbeats 1000000 in
theorem euclid_yes (a b d : Int) (ha : In63 a) (hb : In63 b) (w : World) :
    Calls Try.prog 3 #[.int .i64 a, .int .i64 b, .int .i64 d] w fun e w' => e = .returned (.bool true) ∧ Below w.heap.size w w' := by
  have H : Hid (In63 a ∧ In63 b) := ⟨ha, hb⟩
  have t0 : (bz1 12 (-18) != 6) = false := bne_of bez_fact
  have t1 : decide (bz1 a b < 0) = false := by have := bz1_nonneg ha hb; simp; omega
  have t2 : (wrap64 (wrap64 (a * bz2 a b) + wrap64 (b * bz3 a b)) != bz1 a b) = false := bne_of (bz_sum ha hb)
  by_cases hz : bz1 a b = 0
  · have t3 : (bz1 a b == 0) = true := by simp [hz]
    obtain ⟨rfl, rfl⟩ := bz1_zero ha hb hz
    clear hz ha hb
    go_enter Try.func3, Try.ntmps3
    go_wp2_with fail
    refine (bez_ok 12 (-18) (by unfold In63; decide) (by unfold In63; decide) w).mono ?_
    rintro e w1 ⟨rfl, hB1⟩
    go_wp2_with fail
    refine (bez_ok 0 0 H.out.1 H.out.2 w1).mono ?_
    rintro e w2 ⟨rfl, hB2⟩
    have hB : Below w.heap.size w w2 := hB1.trans (hB2.mono hB1.size)
    go_wp2_with fail
    go_ret
    exact ⟨rfl, hB⟩
  · have t3 : (bz1 a b == 0) = false := by simp [hz]
    have t4 : (a.tmod (bz1 a b) != 0) = false := bne_of (tmod_of_dvd (bz1_dvd ha hb).1)
    have t5 : (b.tmod (bz1 a b) != 0) = false := bne_of (tmod_of_dvd (bz1_dvd ha hb).2)
    by_cases hd : d = 0
    · have t6 : (d == 0) = true := by simp [hd]
      clear hd ha hb
      go_enter Try.func3, Try.ntmps3
      go_wp2_with fail
      refine (bez_ok 12 (-18) (by unfold In63; decide) (by unfold In63; decide) w).mono ?_
      rintro e w1 ⟨rfl, hB1⟩
      go_wp2_with fail
      refine (bez_ok a b H.out.1 H.out.2 w1).mono ?_
      rintro e w2 ⟨rfl, hB2⟩
      have hB : Below w.heap.size w w2 := hB1.trans (hB2.mono hB1.size)
      go_wp2_with fail
      go_ret
      exact ⟨rfl, hB⟩
    · have t6 : (d == 0) = false := by simp [hd]
      by_cases h1 : a.tmod d = 0
      · have t7 : (a.tmod d != 0) = false := by simp [h1]
        by_cases h2 : b.tmod d = 0
        · have t8 : (b.tmod d != 0) = false := by simp [h2]
          have t9 : ((bz1 a b).tmod d == 0) = true := beq_of (tmod_of_dvd (bz1_great ha hb (dvd_of_tmod h1) (dvd_of_tmod h2)))
          clear h1 h2 ha hb
          go_enter Try.func3, Try.ntmps3
          go_wp2_with fail
          refine (bez_ok 12 (-18) (by unfold In63; decide) (by unfold In63; decide) w).mono ?_
          rintro e w1 ⟨rfl, hB1⟩
          go_wp2_with fail
          refine (bez_ok a b H.out.1 H.out.2 w1).mono ?_
          rintro e w2 ⟨rfl, hB2⟩
          have hB : Below w.heap.size w w2 := hB1.trans (hB2.mono hB1.size)
          go_wp2_with fail
          go_ret
          exact ⟨rfl, hB⟩
        · have t8 : (b.tmod d != 0) = true := by simp [h2]
          clear h1 h2 ha hb
          go_enter Try.func3, Try.ntmps3
          go_wp2_with fail
          refine (bez_ok 12 (-18) (by unfold In63; decide) (by unfold In63; decide) w).mono ?_
          rintro e w1 ⟨rfl, hB1⟩
          go_wp2_with fail
          refine (bez_ok a b H.out.1 H.out.2 w1).mono ?_
          rintro e w2 ⟨rfl, hB2⟩
          have hB : Below w.heap.size w w2 := hB1.trans (hB2.mono hB1.size)
          go_wp2_with fail
          go_ret
          exact ⟨rfl, hB⟩
      · have t7 : (a.tmod d != 0) = true := by simp [h1]
        clear h1 ha hb
        go_enter Try.func3, Try.ntmps3
        go_wp2_with fail
        refine (bez_ok 12 (-18) (by unfold In63; decide) (by unfold In63; decide) w).mono ?_
        rintro e w1 ⟨rfl, hB1⟩
        go_wp2_with fail
        refine (bez_ok a b H.out.1 H.out.2 w1).mono ?_
        rintro e w2 ⟨rfl, hB2⟩
        have hB : Below w.heap.size w w2 := hB1.trans (hB2.mono hB1.size)
        go_wp2_with fail
        go_ret
        exact ⟨rfl, hB⟩
theorem euclid_walk (a b d : Int) (ha : In64 a) (hb : In64 b) (w : World) :
    Calls Try.prog 3 #[.int .i64 a, .int .i64 b, .int .i64 d] w fun e w' => e = .returned (.bool true) ∧ Below w.heap.size w w' := by
  by_cases h : a = -9223372036854775808 ∨ b = -9223372036854775808
  · exact euclid_no a b d h w
  · exact euclid_yes a b d (in63_of ha (fun e => h (.inl e))) (in63_of hb (fun e => h (.inr e))) w
end Go.Proofs.Yteiohkajbokekaa
