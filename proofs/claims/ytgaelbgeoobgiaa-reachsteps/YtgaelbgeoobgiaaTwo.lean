/-
  What the program tells of two numbers.
-/
import Derived.Test.YtgaelbgeoobgiaaBase
namespace Go.Proofs.Ytgaelbgeoobgiaa
open Go.RowKit
set_option linter.unusedVariables false

set_option maxHeartbeats 1000000 in
theorem one_if (t : Bool) (w : World) : Calls Try.prog 52 #[.bool t] w fun e w' => e = .returned (.int .i64 (ifV t)) ∧ w' = w := by
  cases t
  · go_enter Try.func52, Try.ntmps52
    go_wp2_with fail
    go_ret
    exact ⟨rfl, rfl⟩
  · go_enter Try.func52, Try.ntmps52
    go_wp2_with fail
    go_ret
    exact ⟨rfl, rfl⟩

set_option maxRecDepth 100000 in
set_option maxHeartbeats 1000000 in
theorem floor_any (a b : Int) (h0 : b ≠ 0) (w : World) : Calls Try.prog 63 #[.int .i64 a, .int .i64 b] w fun e w' => e = .returned (.int .i64 (divV a b)) ∧ Below w.heap.size w w' := by
  have HF : Hid (divV a b = _) := congrArg wrap64 (floor_q a b h0)
  by_cases hm : a.tmod b = 0
  · have HM : Hid (hiB a b = false) := by show _ = _; simp [hiB, hm]
    have hm1 : (a.tmod b != 0) = false := by simp [hm]
    clear hm
    go_enter Try.func63, Try.ntmps63
    go_wp2_with fail
    go_quiet (fail)
    go_wp2_with fail
    go_ret
    exact ⟨ret1 (by rw [HF.out, HM.out]; rfl), bel_drewN (Below.refl _ _) _⟩
  · have hm1 : (a.tmod b != 0) = true := by simp [hm]
    by_cases h1 : a.tmod b < 0
    · have h2 : decide (a.tmod b < 0) = true := by simp [h1]
      by_cases h3 : b < 0
      · have h4 : decide (b < 0) = true := by simp [h3]
        have HM : Hid (hiB a b = false) := by show _ = _; simp [hiB, h1, h3]
        clear hm h1 h3
        go_enter Try.func63, Try.ntmps63
        go_wp2_with fail
        go_quiet (fail)
        go_wp2_with fail
        go_ret
        exact ⟨ret1 (by rw [HF.out, HM.out]; rfl), bel_drewN (Below.refl _ _) _⟩
      · have h4 : decide (b < 0) = false := by simp [h3]
        have HM : Hid (hiB a b = true) := by show _ = _; simp [hiB, h1, h3, hm]
        clear hm h1 h3
        go_enter Try.func63, Try.ntmps63
        go_wp2_with fail
        go_quiet (fail)
        go_wp2_with fail
        go_ret
        exact ⟨ret1 (by rw [HF.out, HM.out, w_subl]; rfl), bel_drewN (Below.refl _ _) _⟩
    · have h2 : decide (a.tmod b < 0) = false := by simp [h1]
      by_cases h3 : b < 0
      · have h4 : decide (b < 0) = true := by simp [h3]
        have HM : Hid (hiB a b = true) := by show _ = _; simp [hiB, h1, h3, hm]
        clear hm h1 h3
        go_enter Try.func63, Try.ntmps63
        go_wp2_with fail
        go_quiet (fail)
        go_wp2_with fail
        go_ret
        exact ⟨ret1 (by rw [HF.out, HM.out, w_subl]; rfl), bel_drewN (Below.refl _ _) _⟩
      · have h4 : decide (b < 0) = false := by simp [h3]
        have HM : Hid (hiB a b = false) := by show _ = _; simp [hiB, h1, h3]
        clear hm h1 h3
        go_enter Try.func63, Try.ntmps63
        go_wp2_with fail
        go_quiet (fail)
        go_wp2_with fail
        go_ret
        exact ⟨ret1 (by rw [HF.out, HM.out]; rfl), bel_drewN (Below.refl _ _) _⟩

set_option maxHeartbeats 1000000 in
theorem quotient_any (a b : Int) (w : World) : Calls Try.prog 50 #[.int .i64 a, .int .i64 b] w fun e w' => e = .returned (.tuple #[.int .i64 (twoV 4 a b), errV (twoE 4 a b)]) ∧ Below w.heap.size w w' := by
  by_cases h0 : b = 0
  · subst h0
    go_enter Try.func50, Try.ntmps50
    go_wp2_with fail
    go_ret2
    exact ⟨ret2 (by simp [twoV]) (by simp [twoE, errV]), Below.refl _ _⟩
  · have H0 : Hid (b ≠ 0) := h0
    have hz : (b == 0) = false := by simp [h0]
    clear h0
    go_enter Try.func50, Try.ntmps50
    go_wp2_with fail
    refine (floor_any a b H0.out w).mono ?_
    rintro e w1 ⟨rfl, hB⟩
    go_wp2_with fail
    go_ret2
    exact ⟨ret2 (tv4 a b H0.out).symm (by rw [te0 (by decide) (by decide) (fun _ => H0.out) (fun h => absurd h (by decide))]; rfl), hB⟩

set_option maxHeartbeats 1000000 in
theorem residue_any (a b : Int) (ha : In64 a) (hb : In64 b) (w : World) : Calls Try.prog 51 #[.int .i64 a, .int .i64 b] w fun e w' => e = .returned (.int .i64 (b.fmod a)) ∧ Below w.heap.size w w' := by
  by_cases h0 : a = 0
  · subst h0
    go_enter Try.func51, Try.ntmps51
    go_wp2_with fail
    go_ret
    exact ⟨ret1 (by simp), Below.refl _ _⟩
  · have H0 : Hid (a ≠ 0) := h0
    have hz : (a == 0) = false := by simp [h0]
    have HE : Hid (wrap64 (b - wrap64 (a * divV b a)) = b.fmod a) := by
      show _ = _
      unfold divV
      rw [w_mulr, w_subr, fmod_is]
      exact (ha.fmod hb).same
    clear h0
    go_enter Try.func51, Try.ntmps51
    go_wp2_with fail
    refine (floor_any b a H0.out w).mono ?_
    rintro e w1 ⟨rfl, hB⟩
    go_wp2_with fail
    go_ret
    exact ⟨ret1 HE.out, hB⟩

/-! ### Powers, by squaring -/
theorem band_one (n : Int) (h : 0 ≤ n) (h2 : n ≤ 9223372036854775807) : Go.bits .and .i64 n 1 = n % 2 := by
  obtain ⟨m, rfl⟩ := Int.eq_ofNat_of_zero_le h
  unfold Go.bits
  simp only [IntWalk.i64_left]
  have e : (BitVec.ofInt (IntKind.i64.bits) (m : Int) &&& BitVec.ofInt (IntKind.i64.bits) 1).toNat = m % 2 := by
    show (BitVec.ofInt 64 (m : Int) &&& BitVec.ofInt 64 1).toNat = m % 2
    rw [BitVec.toNat_and, BitVec.ofInt_natCast, BitVec.toNat_ofNat, Nat.mod_eq_of_lt (by omega)]
    show m &&& 1 = m % 2
    exact Nat.and_one_is_mod m
  rw [e, w_small (by omega) (by omega)]
  rfl
theorem pow_odd (T A B r : Int) (h : 0 ≤ B) (ho : B % 2 = 1) (hr : wrap64 (T * A ^ B.toNat) = r) : wrap64 (wrap64 (T * A) * wrap64 (A * A) ^ (B / 2).toNat) = r := by
  rw [w_mull, ← w_mulr, w_pow, w_mulr, ← hr]
  have e : B.toNat = 2 * (B / 2).toNat + 1 := by omega
  rw [e, Int.pow_succ, Int.pow_mul, show A ^ 2 = A * A from by rw [Int.pow_succ, Int.pow_succ, Int.pow_zero, Int.one_mul]]
  congr 1
  grind
theorem pow_even (T A B r : Int) (h : 0 ≤ B) (ho : B % 2 ≠ 1) (hr : wrap64 (T * A ^ B.toNat) = r) : wrap64 (T * wrap64 (A * A) ^ (B / 2).toNat) = r := by
  rw [← w_mulr, w_pow, w_mulr, ← hr]
  have e : B.toNat = 2 * (B / 2).toNat := by omega
  rw [e, Int.pow_mul, show A ^ 2 = A * A from by rw [Int.pow_succ, Int.pow_succ, Int.pow_zero, Int.one_mul]]
/-- Where the squaring has come to. -/
def Sq (r A B T : Int) : Prop := 0 ≤ B ∧ B ≤ 9223372036854775807 ∧ In64 T ∧ wrap64 (T * A ^ B.toNat) = r
set_option maxRecDepth 100000 in
set_option maxHeartbeats 1000000 in
theorem power_any (a b : Int) (hb : In64 b) (w : World) : Calls Try.prog 53 #[.int .i64 a, .int .i64 b] w fun e w' => e = .returned (.tuple #[.int .i64 (twoV 16 a b), errV (twoE 16 a b)]) ∧ w' = w := by
  by_cases h0 : b < 0
  · have h1 : decide (b < 0) = true := by simp [h0]
    have H0 : Hid (b < 0) := h0
    clear h0
    go_enter Try.func53, Try.ntmps53
    go_wp2_with fail
    go_ret2
    have h0 := H0.out
    exact ⟨ret2 (by simp [twoV, h0]) (by simp [twoE, errV, h0]), rfl⟩
  · have h1 : decide (b < 0) = false := by simp [h0]
    have HE : Hid (powV a b = twoV 16 a b ∧ twoE 16 a b = 0) := ⟨(tv16 a b h0).symm, te0 (by decide) (by decide) (fun h => absurd h (by decide)) (fun _ => h0)⟩
    have HS : Hid (Sq (powV a b) a b 1) := ⟨by omega, hb.2, by unfold In64; decide, by rw [Int.one_mul]; rfl⟩
    clear h0 hb
    go_enter Try.func53, Try.ntmps53
    go_wp2_with fail
    go_loop [0, 1, 6] (fun x y z => ∃ A B T : Int, x = .int .i64 A ∧ y = .int .i64 B ∧ z = .int .i64 T ∧ Hid (Sq (powV a b) A B T)) (fun x y z => (intOf y).toNat)
    case atStart => exact ⟨a, b, 1, rfl, rfl, rfl, HS⟩
    case round =>
      obtain ⟨A, B, T, rfl, rfl, rfl, HR⟩ := hrel
      by_cases hB : 0 < B
      · have t1 : decide (0 < B) = true := by simp [hB]
        have hB2 := HR.out.2.1
        by_cases ho : B % 2 = 1
        · have t2 : (Go.bits .and .i64 B 1 == 1) = true := by rw [band_one B (by omega) hB2]; simp [ho]
          have HN : Hid (Sq (powV a b) (wrap64 (A * A)) (B / 2) (wrap64 (T * A))) := ⟨by omega, by omega, In64.w _, pow_odd T A B _ (by omega) ho HR.out.2.2.2⟩
          clear ho
          go_wp2_with fail
          go_round
          case rel => exact ⟨_, _, _, rfl, rfl, rfl, HN⟩
          case measure => simp [intOf]; omega
        · have t2 : (Go.bits .and .i64 B 1 == 1) = false := by rw [band_one B (by omega) hB2]; simp [ho]
          have HN : Hid (Sq (powV a b) (wrap64 (A * A)) (B / 2) T) := ⟨by omega, by omega, HR.out.2.2.1, pow_even T A B _ (by omega) ho HR.out.2.2.2⟩
          clear ho
          go_wp2_with fail
          go_round
          case rel => exact ⟨_, _, _, rfl, rfl, rfl, HN⟩
          case measure => simp [intOf]; omega
      · have t1 : decide (0 < B) = false := by simp [hB]
        have HZ : Hid (T = powV a b) := by
          show _ = _
          obtain ⟨q1, q2, q3, q4⟩ := HR.out
          obtain rfl : B = 0 := by omega
          rw [← q4]
          simp [q3.same]
        clear hB
        go_wp2_with fail
        go_ret2
        exact ⟨ret2 (by rw [HZ.out, HE.out.1]) (by rw [HE.out.2]; rfl), rfl⟩
end Go.Proofs.Ytgaelbgeoobgiaa
