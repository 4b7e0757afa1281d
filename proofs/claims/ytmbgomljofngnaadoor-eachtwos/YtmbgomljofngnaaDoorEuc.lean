/-
  Plain mathematics of Euclid's rows: what they end with divides both, is divided by all that does, and is the sum; nothing of the program.
-/
import Derived.Test.YtmbgomljofngnaaDoorBase
namespace Go.Proofs.YtmbgomljofngnaaDoor
open Go.RowKit
set_option linter.unusedVariables false

/-- One number of a row, less so many times that of another. -/
def ls (q a x : Int) : Int := wrap64 (a - wrap64 (q * x))
theorem ls_eq (q a x : Int) : ls q a x = wrap64 (a - q * x) := w_subr _ _
theorem ls_in (q a x : Int) : In64 (ls q a x) := In64.w _
theorem tmod_abs (a : Int) {b : Int} (h : b ≠ 0) : (a.tmod b).natAbs < b.natAbs := by
  rw [Int.natAbs_tmod]
  exact Nat.mod_lt _ (by omega)
/-- The row that the rows of two numbers end with, reckoned from the end back, in so many steps at most. -/
def eucF : Nat → Int → Int → Int × Int × Int
  | 0, a, _ => (a, 1, 0)
  | n + 1, a, b => if b = 0 then (a, 1, 0) else ((eucF n b (a.tmod b)).1, (eucF n b (a.tmod b)).2.2, ls (a.tdiv b) (eucF n b (a.tmod b)).2.1 (eucF n b (a.tmod b)).2.2)
theorem eucF_zero (n : Nat) (a : Int) : eucF n a 0 = (a, 1, 0) := by cases n <;> simp [eucF]
theorem eucF_same (n : Nat) : ∀ (m : Nat) (a b : Int), b.natAbs ≤ n → b.natAbs ≤ m → eucF n a b = eucF m a b := by
  induction n with
  | zero =>
    intro m a b hn _
    obtain rfl : b = 0 := by omega
    rw [eucF_zero, eucF_zero]
  | succ n ih =>
    intro m a b hn hm
    by_cases h : b = 0
    · subst h; rw [eucF_zero, eucF_zero]
    · have ht := tmod_abs a h
      obtain ⟨k, rfl⟩ : ∃ k, m = k + 1 := ⟨m - 1, by omega⟩
      simp only [eucF, h, if_false]
      rw [ih k b (a.tmod b) (by omega) (by omega)]
def euc (a b : Int) : Int × Int × Int := eucF b.natAbs a b
theorem euc_zero (a : Int) : euc a 0 = (a, 1, 0) := eucF_zero _ a
theorem euc_step (a : Int) {b : Int} (h : b ≠ 0) : euc a b = ((euc b (a.tmod b)).1, (euc b (a.tmod b)).2.2, ls (a.tdiv b) (euc b (a.tmod b)).2.1 (euc b (a.tmod b)).2.2) := by
  have ht := tmod_abs a h
  unfold euc
  obtain ⟨k, hk⟩ : ∃ k, b.natAbs = k + 1 := ⟨b.natAbs - 1, by omega⟩
  rw [hk]
  simp only [eucF, h, if_false]
  rw [eucF_same k (a.tmod b).natAbs b (a.tmod b) (by omega) (Nat.le_refl _)]
theorem euc_ind {P : Int → Int → Prop} (h0 : ∀ a, P a 0) (h1 : ∀ a b, b ≠ 0 → P b (a.tmod b) → P a b) (a b : Int) : P a b := by
  generalize hn : b.natAbs = n
  induction n using Nat.strongRecOn generalizing a b with
  | _ n ih =>
    by_cases h : b = 0
    · subst h; exact h0 a
    · exact h1 a b h (ih _ (by rw [← hn]; exact tmod_abs a h) b (a.tmod b) rfl)
theorem tmod_is (a b : Int) : a - a.tdiv b * b = a.tmod b := by have := Int.tmod_add_mul_tdiv a b; rw [Int.mul_comm] at this; omega
/-- Numbers that are not the least one. -/
def In63 (a : Int) : Prop := -9223372036854775807 ≤ a ∧ a ≤ 9223372036854775807
theorem In63.in64 {a : Int} (h : In63 a) : In64 a := by unfold In63 In64 at *; omega
theorem In63.tmod {a b : Int} (hb : In63 b) (h : b ≠ 0) : In63 (a.tmod b) := by
  have := tmod_abs a h
  unfold In63 at *
  omega
theorem In63.tdiv {a : Int} (ha : In63 a) (b : Int) : In63 (a.tdiv b) := by
  have : (a.tdiv b).natAbs ≤ a.natAbs := by rw [Int.natAbs_tdiv]; exact Nat.div_le_self _ _
  unfold In63 at *
  omega
theorem euc_coef (a b : Int) : In64 (euc a b).2.1 ∧ In64 (euc a b).2.2 := by
  induction a, b using euc_ind with
  | h0 a => rw [euc_zero]; show In64 1 ∧ In64 0; unfold In64; decide
  | h1 a b h ih => rw [euc_step a h]; exact ⟨ih.2, ls_in _ _ _⟩
theorem euc_g63 {a b : Int} (ha : In63 a) (hb : In63 b) : In63 (euc a b).1 := by
  induction a, b using euc_ind with
  | h0 a => rw [euc_zero]; exact ha
  | h1 a b h ih => rw [euc_step a h]; exact ih hb (In63.tmod hb h)
theorem euc_dvd (a b : Int) : (euc a b).1 ∣ a ∧ (euc a b).1 ∣ b := by
  induction a, b using euc_ind with
  | h0 a => rw [euc_zero]; exact ⟨Int.dvd_refl a, Int.dvd_zero a⟩
  | h1 a b h ih =>
    rw [euc_step a h]
    refine ⟨?_, ih.1⟩
    have e := Int.tmod_add_mul_tdiv a b
    have := Int.dvd_add ih.2 (Int.dvd_mul_of_dvd_left ih.1 (c := a.tdiv b))
    rw [e] at this
    exact this
theorem euc_great (a b d : Int) (h1 : d ∣ a) (h2 : d ∣ b) : d ∣ (euc a b).1 := by
  induction a, b using euc_ind with
  | h0 a => rw [euc_zero]; exact h1
  | h1 a b h ih =>
    rw [euc_step a h]
    refine ih h2 ?_
    rw [← tmod_is]
    exact Int.dvd_sub h1 (Int.dvd_mul_of_dvd_right h2)
theorem euc_sum (a b : Int) : wrap64 (a * (euc a b).2.1 + b * (euc a b).2.2) = wrap64 (euc a b).1 := by
  induction a, b using euc_ind with
  | h0 a => rw [euc_zero]; simp
  | h1 a b h ih =>
    rw [euc_step a h]
    show wrap64 (a * (euc b (a.tmod b)).2.2 + b * ls (a.tdiv b) (euc b (a.tmod b)).2.1 (euc b (a.tmod b)).2.2) = wrap64 (euc b (a.tmod b)).1
    rw [ls_eq, ← w_addr, w_mulr, w_addr, ← ih]
    congr 1
    have e := tmod_is a b
    grind
/-- The rows as far as they have come. -/
def Bz (a b r0 x0 y0 r1 x1 y1 : Int) : Prop := In63 r0 ∧ In63 r1 ∧ In64 x0 ∧ In64 y0 ∧ In64 x1 ∧ In64 y1 ∧ (euc r0 r1).1 = (euc a b).1 ∧
  wrap64 ((euc r0 r1).2.1 * x0 + (euc r0 r1).2.2 * x1) = (euc a b).2.1 ∧ wrap64 ((euc r0 r1).2.1 * y0 + (euc r0 r1).2.2 * y1) = (euc a b).2.2
theorem Bz.start {a b : Int} (ha : In63 a) (hb : In63 b) : Bz a b a 1 0 b 0 1 := by
  have h0 : In64 0 := by unfold In64; decide
  have h1 : In64 1 := by unfold In64; decide
  refine ⟨ha, hb, h1, h0, h0, h1, rfl, ?_, ?_⟩
  · rw [Int.mul_one, Int.mul_zero, Int.add_zero]; exact (euc_coef a b).1.same
  · rw [Int.mul_one, Int.mul_zero, Int.zero_add]; exact (euc_coef a b).2.same
theorem w_l3 (a b y : Int) : wrap64 (a + wrap64 b * y) = wrap64 (a + b * y) := by rw [← w_addr, w_mull, w_addr]
theorem w_r3 (a v b : Int) : wrap64 (a + v * wrap64 b) = wrap64 (a + v * b) := by rw [← w_addr, w_mulr, w_addr]
theorem w_two {u v x q y : Int} : wrap64 (u * y + v * ls q x y) = wrap64 (v * x + ls q u v * y) := by
  rw [ls_eq, ls_eq, w_r3, w_l3]
  congr 1
  grind
theorem ls_tmod {r0 r1 : Int} (h1 : In63 r1) (h : r1 ≠ 0) : ls (r0.tdiv r1) r0 r1 = r0.tmod r1 := by
  rw [ls_eq, tmod_is]
  exact (In63.tmod h1 h).in64.same
theorem Bz.next {a b r0 x0 y0 r1 x1 y1 : Int} (h : Bz a b r0 x0 y0 r1 x1 y1) (hz : r1 ≠ 0) :
    Bz a b r1 x1 y1 (ls (r0.tdiv r1) r0 r1) (ls (r0.tdiv r1) x0 x1) (ls (r0.tdiv r1) y0 y1) := by
  obtain ⟨h1, h2, h3, h4, h5, h6, h7, h8, h9⟩ := h
  rw [euc_step r0 hz] at h7 h8 h9
  have e := ls_tmod (r0 := r0) h2 hz
  refine ⟨h2, by rw [e]; exact In63.tmod h2 hz, h5, h6, ls_in _ _ _, ls_in _ _ _, by rw [e]; exact h7, ?_, ?_⟩
  · rw [e, ← h8]; exact w_two
  · rw [e, ← h9]; exact w_two
theorem Bz.done {a b r0 x0 y0 x1 y1 : Int} (h : Bz a b r0 x0 y0 0 x1 y1) : r0 = (euc a b).1 ∧ x0 = (euc a b).2.1 ∧ y0 = (euc a b).2.2 := by
  obtain ⟨h1, h2, h3, h4, h5, h6, h7, h8, h9⟩ := h
  rw [euc_zero] at h7 h8 h9
  refine ⟨h7, ?_, ?_⟩
  · rw [← h8]; simp [h3.same]
  · rw [← h9]; simp [h4.same]
/-- A number of the first row, the other sign where the row begins with one below 0. -/
def nz (g v : Int) : Int := if g < 0 then ls 1 0 v else v
def bz1 (a b : Int) : Int := nz (euc a b).1 (euc a b).1
def bz2 (a b : Int) : Int := nz (euc a b).1 (euc a b).2.1
def bz3 (a b : Int) : Int := nz (euc a b).1 (euc a b).2.2
theorem ls_neg (v : Int) : ls 1 0 v = wrap64 (-v) := by rw [ls_eq, Int.one_mul, Int.zero_sub]
theorem nz_in {g v : Int} (h : In64 v) : In64 (nz g v) := by unfold nz; split; · exact ls_in _ _ _
                                                             · exact h
theorem bz1_is {a b : Int} (ha : In63 a) (hb : In63 b) : bz1 a b = if (euc a b).1 < 0 then -(euc a b).1 else (euc a b).1 := by
  unfold bz1 nz
  split
  · rw [ls_neg]
    have := euc_g63 ha hb
    unfold In63 at this
    exact w_small (by omega) (by omega)
  · rfl
theorem bz1_nonneg {a b : Int} (ha : In63 a) (hb : In63 b) : 0 ≤ bz1 a b := by rw [bz1_is ha hb]; split <;> omega
theorem bz1_zero {a b : Int} (ha : In63 a) (hb : In63 b) (h : bz1 a b = 0) : a = 0 ∧ b = 0 := by
  have h0 : (euc a b).1 = 0 := by rw [bz1_is ha hb] at h; split at h <;> omega
  have := euc_dvd a b
  rw [h0] at this
  exact ⟨Int.zero_dvd.1 this.1, Int.zero_dvd.1 this.2⟩
theorem bz1_dvd {a b : Int} (ha : In63 a) (hb : In63 b) : bz1 a b ∣ a ∧ bz1 a b ∣ b := by
  rw [bz1_is ha hb]
  have := euc_dvd a b
  split
  · exact ⟨Int.neg_dvd.2 this.1, Int.neg_dvd.2 this.2⟩
  · exact this
theorem bz1_great {a b d : Int} (ha : In63 a) (hb : In63 b) (h1 : d ∣ a) (h2 : d ∣ b) : d ∣ bz1 a b := by
  rw [bz1_is ha hb]
  have := euc_great a b d h1 h2
  split
  · exact Int.dvd_neg.2 this
  · exact this
theorem bz_sum {a b : Int} (ha : In63 a) (hb : In63 b) : wrap64 (wrap64 (a * bz2 a b) + wrap64 (b * bz3 a b)) = bz1 a b := by
  have hs := euc_sum a b
  have h63 := euc_g63 ha hb
  unfold bz1 bz2 bz3 nz
  rw [w_addl, w_addr]
  by_cases hg : (euc a b).1 < 0
  · rw [if_pos hg, if_pos hg, if_pos hg, ls_neg, ls_neg, ls_neg, ← w_addl, w_mulr, w_addl, ← w_addr, w_mulr, w_addr, ← w_neg (euc a b).1, ← hs, w_neg]
    congr 1
    grind
  · rw [if_neg hg, if_neg hg, if_neg hg, hs]
    exact h63.in64.same
end Go.Proofs.YtmbgomljofngnaaDoor
