/-
  Plain mathematics of numbers that run round: sums, products, quotients cut downward, powers; nothing of the program.
-/
import Derived.WalkKit
import Derived.OpenShut
namespace Go.Proofs.Ythmiaiephkcdfaa
open Go.RowKit
set_option linter.unusedVariables false

theorem w_small {n : Int} (h1 : -9223372036854775808 ≤ n) (h2 : n ≤ 9223372036854775807) : wrap64 n = n := by unfold wrap64; omega
theorem w_lo (n : Int) : -9223372036854775808 ≤ wrap64 n := by unfold wrap64; omega
theorem w_hi (n : Int) : wrap64 n ≤ 9223372036854775807 := by unfold wrap64; omega
theorem w_ex (n : Int) : ∃ k, wrap64 n = n + 18446744073709551616 * k := ⟨-((n + 9223372036854775808) / 18446744073709551616), by unfold wrap64; omega⟩
theorem w_cg {a b : Int} (k : Int) (h : a - b = 18446744073709551616 * k) : wrap64 a = wrap64 b := by unfold wrap64; omega
theorem w_gc {a b : Int} (h : wrap64 a = wrap64 b) : ∃ k, a - b = 18446744073709551616 * k := by
  obtain ⟨k, hk⟩ := w_ex a
  obtain ⟨l, hl⟩ := w_ex b
  exact ⟨l - k, by omega⟩
theorem w_w (a : Int) : wrap64 (wrap64 a) = wrap64 a := w_small (w_lo a) (w_hi a)
theorem w_addl (a b : Int) : wrap64 (wrap64 a + b) = wrap64 (a + b) := by unfold wrap64; omega
theorem w_addr (a b : Int) : wrap64 (a + wrap64 b) = wrap64 (a + b) := by unfold wrap64; omega
theorem w_subl (a b : Int) : wrap64 (wrap64 a - b) = wrap64 (a - b) := by unfold wrap64; omega
theorem w_subr (a b : Int) : wrap64 (a - wrap64 b) = wrap64 (a - b) := by unfold wrap64; omega
theorem w_neg (a : Int) : wrap64 (-wrap64 a) = wrap64 (-a) := by unfold wrap64; omega
theorem w_mull (a b : Int) : wrap64 (wrap64 a * b) = wrap64 (a * b) := by
  obtain ⟨k, hk⟩ := w_ex a
  rw [hk]
  exact w_cg (k * b) (by grind)
theorem w_mulr (a b : Int) : wrap64 (a * wrap64 b) = wrap64 (a * b) := by rw [Int.mul_comm, w_mull, Int.mul_comm]
theorem w_pow (a : Int) (n : Nat) : wrap64 (wrap64 a ^ n) = wrap64 (a ^ n) := by
  induction n with
  | zero => simp
  | succ n ih => rw [Int.pow_succ, Int.pow_succ, w_mulr, ← w_mull, ih, w_mull]

/-! ### Quotients that are cut downward, and what they leave -/
theorem tmod_neg_of {a b : Int} (ha : a < 0) : a.tmod b ≤ 0 := by
  have := Int.tmod_nonneg (a := -a) b (by omega)
  rw [Int.neg_tmod] at this
  omega
/-- Where the quotient that is cut toward 0 is one too high. -/
def hiB (a b : Int) : Bool := (a.tmod b != 0) && ((decide (a.tmod b < 0)) != (decide (b < 0)))
theorem floor_q (a b : Int) (hb : b ≠ 0) : a.fdiv b = if hiB a b = true then a.tdiv b - 1 else a.tdiv b := by
  rw [Int.fdiv_eq_tdiv]
  unfold hiB
  by_cases hd : b ∣ a
  · have h0 : a.tmod b = 0 := Int.tmod_eq_zero_of_dvd hd
    simp [hd, h0]
  · have h0 : a.tmod b ≠ 0 := fun h => hd (Int.dvd_of_tmod_eq_zero h)
    by_cases ha : 0 ≤ a
    · have h1 := Int.tmod_nonneg b ha
      by_cases hb' : 0 ≤ b
      · have e1 : ¬ a.tmod b < 0 := by omega
        have e2 : ¬ b < 0 := by omega
        simp [hd, ha, hb', e1, e2]
      · have e1 : ¬ a.tmod b < 0 := by omega
        have e2 : b < 0 := by omega
        simp [hd, ha, hb', h0, e1, e2]
    · have h1 := tmod_neg_of (a := a) (b := b) (by omega)
      have e1 : a.tmod b < 0 := by omega
      by_cases hb' : 0 ≤ b
      · have e2 : ¬ b < 0 := by omega
        have hs : b.sign = 1 := Int.sign_eq_one_of_pos (by omega)
        simp [hd, ha, hb', h0, e1, e2, hs]
      · have e2 : b < 0 := by omega
        have hs : b.sign = -1 := Int.sign_eq_neg_one_of_neg e2
        simp [hd, ha, hb', e1, e2, hs]
theorem fmod_is (a b : Int) : a - b * a.fdiv b = a.fmod b := by have := Int.fmod_add_mul_fdiv a b; omega
theorem fmod_pos {a b : Int} (hb : 0 < b) : 0 ≤ a.fmod b ∧ a.fmod b < b := ⟨Int.fmod_nonneg_of_pos a hb, Int.fmod_lt_of_pos a hb⟩
theorem fmod_neg {a b : Int} (hb : b < 0) : a.fmod b ≤ 0 ∧ b < a.fmod b := by
  have h := fmod_pos (a := -a) (b := -b) (by omega)
  rw [Int.neg_fmod_neg] at h
  omega

/-! ### What is told of two numbers -/
def bandV (a b : Int) : Int := Go.bits .and .i64 a b
def borV (a b : Int) : Int := Go.bits .or .i64 a b
def ifV (t : Bool) : Int := if t then 1 else 0
def powV (a b : Int) : Int := wrap64 (a ^ b.toNat)
def divV (a b : Int) : Int := wrap64 (a.fdiv b)
/-- The error of two numbers: 0: none. -/
def twoE (f a b : Int) : Int := if f < 1 ∨ 16 < f then 1 else if f = 4 ∧ b = 0 then 6 else if f = 16 ∧ b < 0 then 6 else 0
def twoV (f a b : Int) : Int :=
  if f = 1 then wrap64 (a + b) else if f = 2 then wrap64 (a - b) else if f = 3 then wrap64 (a * b)
  else if f = 4 then (if b = 0 then 0 else divV a b) else if f = 5 then b.fmod a
  else if f = 6 then max a b else if f = 7 then min a b
  else if f = 8 then ifV (a == b) else if f = 9 then ifV (a != b) else if f = 10 then ifV (decide (a < b)) else if f = 11 then ifV (decide (a ≤ b))
  else if f = 12 then ifV (decide (b ≤ a)) else if f = 13 then ifV (decide (b < a)) else if f = 14 then bandV a b else if f = 15 then borV a b
  else if f = 16 then (if b < 0 then 0 else powV a b) else 0
theorem twoE_cases (f a b : Int) : twoE f a b = 0 ∨ twoE f a b = 1 ∨ twoE f a b = 6 := by
  unfold twoE
  repeat' split
  all_goals simp
/-- In range. -/
def In64 (a : Int) : Prop := -9223372036854775808 ≤ a ∧ a ≤ 9223372036854775807
theorem In64.wf {a : Int} (h : (Lit.int .i64 a).wf = true) : In64 a := bounds_i64 h
theorem In64.w (n : Int) : In64 (wrap64 n) := ⟨w_lo n, w_hi n⟩
theorem In64.same {n : Int} (h : In64 n) : wrap64 n = n := w_small h.1 h.2
theorem In64.fmod {a b : Int} (ha : In64 a) (hb : In64 b) : In64 (b.fmod a) := by
  unfold In64 at *
  by_cases h0 : a = 0
  · subst h0; rw [Int.fmod_zero]; exact hb
  · by_cases h1 : 0 < a
    · have := fmod_pos (a := b) h1; omega
    · have := fmod_neg (a := b) (b := a) (by omega); omega
theorem In64.ifV (t : Bool) : In64 (ifV t) := by cases t <;> (unfold In64; decide)
theorem bits_bnd (op : BinOp) (a b : Int) : In64 (Go.bits op .i64 a b) := by
  unfold Go.bits
  simp only [IntWalk.i64_left]
  exact In64.w _
theorem In64.ite {c : Prop} [Decidable c] {x y : Int} (h1 : In64 x) (h2 : In64 y) : In64 (if c then x else y) := by by_cases h : c <;> simp [h, h1, h2]
theorem In64.two {f a b : Int} (ha : In64 a) (hb : In64 b) : In64 (twoV f a b) := by
  have h0 : In64 0 := by unfold In64; decide
  have h1 : In64 (max a b) := by unfold In64 at *; omega
  have h2 : In64 (min a b) := by unfold In64 at *; omega
  unfold twoV bandV borV powV divV
  repeat' (with_reducible refine In64.ite ?_ ?_)
  all_goals first | exact In64.w _ | exact h0 | exact h1 | exact h2 | exact ha.fmod hb | exact In64.ifV _ | exact bits_bnd _ _ _
theorem tv1 (a b : Int) : twoV 1 a b = wrap64 (a + b) := by simp [twoV]
theorem tv2 (a b : Int) : twoV 2 a b = wrap64 (a - b) := by simp [twoV]
theorem tv3 (a b : Int) : twoV 3 a b = wrap64 (a * b) := by simp [twoV]
theorem tv4 (a b : Int) (h : b ≠ 0) : twoV 4 a b = divV a b := by simp [twoV, h]
theorem tv5 (a b : Int) : twoV 5 a b = b.fmod a := by simp [twoV]
theorem tv6 (a b : Int) : twoV 6 a b = max a b := by simp [twoV]
theorem tv7 (a b : Int) : twoV 7 a b = min a b := by simp [twoV]
theorem tv8 (a b : Int) : twoV 8 a b = ifV (a == b) := by simp [twoV]
theorem tv9 (a b : Int) : twoV 9 a b = ifV (a != b) := by simp [twoV]
theorem tv10 (a b : Int) : twoV 10 a b = ifV (decide (a < b)) := by simp [twoV]
theorem tv11 (a b : Int) : twoV 11 a b = ifV (decide (a ≤ b)) := by simp [twoV]
theorem tv12 (a b : Int) : twoV 12 a b = ifV (decide (b ≤ a)) := by simp [twoV]
theorem tv13 (a b : Int) : twoV 13 a b = ifV (decide (b < a)) := by simp [twoV]
theorem tv14 (a b : Int) : twoV 14 a b = bandV a b := by simp [twoV]
theorem tv15 (a b : Int) : twoV 15 a b = borV a b := by simp [twoV]
theorem tv16 (a b : Int) (h : ¬ b < 0) : twoV 16 a b = powV a b := by simp [twoV, h]
theorem te0 {f a b : Int} (h1 : 1 ≤ f) (h2 : f ≤ 16) (h3 : f = 4 → b ≠ 0) (h4 : f = 16 → ¬ b < 0) : twoE f a b = 0 := by
  unfold twoE
  rw [if_neg (by omega), if_neg (fun h => h3 h.1 h.2), if_neg (fun h => h4 h.1 h.2)]
/-- What the helper of the statements tells: -77 for an error. -/
def tw (f a b : Int) : Int := if twoE f a b = 0 then twoV f a b else -77
theorem In64.tw {f a b : Int} (ha : In64 a) (hb : In64 b) : In64 (tw f a b) := by
  unfold Go.Proofs.Ythmiaiephkcdfaa.tw
  split
  · exact ha.two hb
  · unfold In64; decide
theorem tw_ok {f a b : Int} (h1 : 1 ≤ f) (h2 : f ≤ 16) (h3 : f ≠ 4) (h4 : f ≠ 16) : tw f a b = twoV f a b := by
  unfold tw; rw [if_pos (te0 h1 h2 (fun h => absurd h h3) (fun h => absurd h h4))]
theorem tw1 (a b : Int) : tw 1 a b = wrap64 (a + b) := (tw_ok (by decide) (by decide) (by decide) (by decide)).trans (tv1 a b)
theorem tw2 (a b : Int) : tw 2 a b = wrap64 (a - b) := (tw_ok (by decide) (by decide) (by decide) (by decide)).trans (tv2 a b)
theorem tw3 (a b : Int) : tw 3 a b = wrap64 (a * b) := (tw_ok (by decide) (by decide) (by decide) (by decide)).trans (tv3 a b)
theorem tw4 (a b : Int) (h : b ≠ 0) : tw 4 a b = divV a b := by unfold tw; rw [if_pos (te0 (by decide) (by decide) (fun _ => h) (fun h => absurd h (by decide))), tv4 a b h]
theorem tw5 (a b : Int) : tw 5 a b = b.fmod a := (tw_ok (by decide) (by decide) (by decide) (by decide)).trans (tv5 a b)
theorem tw6 (a b : Int) : tw 6 a b = max a b := (tw_ok (by decide) (by decide) (by decide) (by decide)).trans (tv6 a b)
theorem tw7 (a b : Int) : tw 7 a b = min a b := (tw_ok (by decide) (by decide) (by decide) (by decide)).trans (tv7 a b)
theorem tw8 (a b : Int) : tw 8 a b = ifV (a == b) := (tw_ok (by decide) (by decide) (by decide) (by decide)).trans (tv8 a b)
theorem tw9 (a b : Int) : tw 9 a b = ifV (a != b) := (tw_ok (by decide) (by decide) (by decide) (by decide)).trans (tv9 a b)
theorem tw10 (a b : Int) : tw 10 a b = ifV (decide (a < b)) := (tw_ok (by decide) (by decide) (by decide) (by decide)).trans (tv10 a b)
theorem tw11 (a b : Int) : tw 11 a b = ifV (decide (a ≤ b)) := (tw_ok (by decide) (by decide) (by decide) (by decide)).trans (tv11 a b)
theorem tw12 (a b : Int) : tw 12 a b = ifV (decide (b ≤ a)) := (tw_ok (by decide) (by decide) (by decide) (by decide)).trans (tv12 a b)
theorem tw13 (a b : Int) : tw 13 a b = ifV (decide (b < a)) := (tw_ok (by decide) (by decide) (by decide) (by decide)).trans (tv13 a b)
theorem tw14 (a b : Int) : tw 14 a b = bandV a b := (tw_ok (by decide) (by decide) (by decide) (by decide)).trans (tv14 a b)
theorem tw15 (a b : Int) : tw 15 a b = borV a b := (tw_ok (by decide) (by decide) (by decide) (by decide)).trans (tv15 a b)
theorem tw16 (a b : Int) (h : ¬ b < 0) : tw 16 a b = powV a b := by unfold tw; rw [if_pos (te0 (by decide) (by decide) (fun h => absurd h (by decide)) (fun _ => h)), tv16 a b h]
theorem beq_of {x y : Int} (h : x = y) : (x == y) = true := by simp [h]
theorem bne_of {x y : Int} (h : x = y) : (x != y) = false := by simp [h]
end Go.Proofs.Ythmiaiephkcdfaa
