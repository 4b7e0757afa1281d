/-
  Plain mathematics of bits: both, either, and all the others; nothing of the program.
-/
import Derived.Test.YtjaabemlpiafaaaDoorBase
namespace Go.Proofs.YtjaabemlpiafaaaDoor
open Go.RowKit
set_option linter.unusedVariables false

theorem w_bmod (n : Int) : wrap64 n = Int.bmod n (2 ^ 64) := by
  unfold wrap64
  rw [Int.bmod_def]
  simp only [Nat.reducePow]
  split <;> omega
theorem w_nat (x : BitVec 64) : wrap64 (x.toNat : Int) = x.toInt := by rw [w_bmod, BitVec.toInt_eq_toNat_bmod]
theorem bv_of {a : Int} (h : In64 a) : ∃ x : BitVec 64, a = x.toInt := ⟨BitVec.ofInt 64 a, by rw [BitVec.toInt_ofInt, ← w_bmod, h.same]⟩
theorem band_bv (x y : BitVec 64) : bandV x.toInt y.toInt = (x &&& y).toInt := by
  unfold bandV Go.bits
  simp only [IntWalk.i64_left]
  show wrap64 ((BitVec.ofInt 64 x.toInt &&& BitVec.ofInt 64 y.toInt).toNat : Int) = _
  rw [BitVec.ofInt_toInt, BitVec.ofInt_toInt, w_nat]
theorem bor_bv (x y : BitVec 64) : borV x.toInt y.toInt = (x ||| y).toInt := by
  unfold borV Go.bits
  simp only [IntWalk.i64_left]
  show wrap64 ((BitVec.ofInt 64 x.toInt ||| BitVec.ofInt 64 y.toInt).toNat : Int) = _
  rw [BitVec.ofInt_toInt, BitVec.ofInt_toInt, w_nat]
theorem bnot_bv (x : BitVec 64) : wrap64 (-1 - x.toInt) = (~~~x).toInt := by
  rw [BitVec.toInt_eq_toNat_cond, BitVec.toInt_eq_toNat_cond, BitVec.toNat_not]
  have := x.isLt
  simp only [Nat.reducePow] at *
  unfold wrap64
  split <;> split <;> omega
theorem add_bv (x y : BitVec 64) : wrap64 (x.toInt + y.toInt) = (x + y).toInt := by rw [w_bmod, BitVec.toInt_add]
theorem nat_and_or (x y : Nat) : (x &&& y) + (x ||| y) = x + y := by
  induction x using Nat.strongRecOn generalizing y with
  | _ x ih =>
    by_cases h0 : x = 0
    · subst h0; simp
    · have h1 := ih (x / 2) (by omega) (y / 2)
      have a1 : (x &&& y) / 2 = x / 2 &&& y / 2 := Nat.and_div_two
      have a2 : (x ||| y) / 2 = x / 2 ||| y / 2 := Nat.or_div_two
      have b1 : (x &&& y) % 2 = 1 ↔ x % 2 = 1 ∧ y % 2 = 1 := Nat.and_mod_two_eq_one
      have b2 : (x ||| y) % 2 = 1 ↔ x % 2 = 1 ∨ y % 2 = 1 := Nat.or_mod_two_eq_one
      rw [← a1, ← a2] at h1
      omega
theorem and_or_bv (x y : BitVec 64) : (x &&& y) + (x ||| y) = x + y := by
  apply BitVec.eq_of_toNat_eq
  rw [BitVec.toNat_add, BitVec.toNat_add, BitVec.toNat_and, BitVec.toNat_or, nat_and_or]
theorem or_abs (x y : BitVec 64) : x ||| (x &&& y) = x := by ext i; simp; intro h _; exact h
theorem and_abs (x y : BitVec 64) : x &&& (x ||| y) = x := by ext i; simp; intro h; exact Or.inl h
theorem and_not (x : BitVec 64) : (x &&& ~~~x).toInt = 0 := by rw [show x &&& ~~~x = 0#64 from by ext i; simp]; rfl
theorem or_not (x : BitVec 64) : (x ||| ~~~x).toInt = -1 := by rw [show x ||| ~~~x = BitVec.allOnes 64 from by ext i; simp]; rfl
end Go.Proofs.YtjaabemlpiafaaaDoor
