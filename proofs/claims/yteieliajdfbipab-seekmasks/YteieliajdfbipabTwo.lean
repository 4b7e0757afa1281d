/-
  What the program tells of two numbers.
-/
import Derived.Test.YteieliajdfbipabBase
namespace Go.Proofs.Yteieliajdfbipab
open Go.RowKit
set_option linter.unusedVariables false

set_option maxHeartbeats 1000000 in
theorem one_if (t : Bool) (w : World) : Calls Try.prog 35 #[.bool t] w fun e w' => e = .returned (.int .i64 (ifV t)) ∧ w' = w := by
  cases t
  · go_enter Try.func35, Try.ntmps35
    go_wp2_with fail
    go_ret
    exact ⟨rfl, rfl⟩
  · go_enter Try.func35, Try.ntmps35
    go_wp2_with fail
    go_ret
    exact ⟨rfl, rfl⟩

theorem band_one (n : Int) (h : 0 ≤ n) (h2 : n ≤ 9223372036854775807) : Go.bits .and .i64 n 1 = n % 2 := by
  obtain ⟨m, rfl⟩ := Int.eq_ofNat_of_zero_le h
  unfold Go.bits
  simp only [IntWalk.i64_left]
  have e : (BitVec.ofInt (IntKind.i64.bits) (m : Int) &&& BitVec.ofInt (IntKind.i64.bits) 1).toNat = m % 2 := by
    show (BitVec.ofInt 64 (m : Int) &&& BitVec.ofInt 64 1).toNat = m % 2
    rw [BitVec.toNat_and, BitVec.ofInt_natCast, BitVec.toNat_ofNat, Nat.mod_eq_of_lt (by omega)]
    show m &&& 1 = m % 2
    exact Nat.and_one_is_mod m
  rw [e, w_small (by omega) (by omega)]
  rfl
theorem pow_odd (T A B r : Int) (h : 0 ≤ B) (ho : B % 2 = 1) (hr : wrap64 (T * A ^ B.toNat) = r) : wrap64 (wrap64 (T * A) * wrap64 (A * A) ^ (B / 2).toNat) = r := by
  rw [w_mull, ← w_mulr, w_pow, w_mulr, ← hr]
  have e : B.toNat = 2 * (B / 2).toNat + 1 := by omega
  rw [e, Int.pow_succ, Int.pow_mul, show A ^ 2 = A * A from by rw [Int.pow_succ, Int.pow_succ, Int.pow_zero, Int.one_mul]]
  congr 1
  grind
theorem pow_even (T A B r : Int) (h : 0 ≤ B) (ho : B % 2 ≠ 1) (hr : wrap64 (T * A ^ B.toNat) = r) : wrap64 (T * wrap64 (A * A) ^ (B / 2).toNat) = r := by
  rw [← w_mulr, w_pow, w_mulr, ← hr]
  have e : B.toNat = 2 * (B / 2).toNat := by omega
  rw [e, Int.pow_mul, show A ^ 2 = A * A from by rw [Int.pow_succ, Int.pow_succ, Int.pow_zero, Int.one_mul]]
/-- Where the squaring has come to. -/
def Sq (r A B T : Int) : Prop := 0 ≤ B ∧ B ≤ 9223372036854775807 ∧ In64 T ∧ wrap64 (T * A ^ B.toNat) = r
end Go.Proofs.Yteieliajdfbipab
