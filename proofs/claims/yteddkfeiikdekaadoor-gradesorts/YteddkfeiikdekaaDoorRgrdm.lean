/-
  Plain mathematics: an order that is filled number by number, each at the place that is how many are ahead of it; nothing of the program.
-/
import Derived.Test.YteddkfeiikdekaaDoorGrdq
namespace Go.Proofs.YteddkfeiikdekaaDoor
open Go.RowKit
set_option linter.unusedVariables false

/-- The order, as far as the first numbers go. -/
def gdU (lt : Nat → Nat → Bool) (n t : Nat) : List Int := (List.range n).map fun k => if nth (grd lt n) k < (t : Int) then nth (grd lt n) k else 0
section
variable {lt : Nat → Nat → Bool} {n : Nat}
theorem gdU_length (t : Nat) : (gdU lt n t).length = n := by simp [gdU]
theorem gdU_nth {t k : Nat} (h : k < n) : nth (gdU lt n t) k = if nth (grd lt n) k < (t : Int) then nth (grd lt n) k else 0 := by
  rw [nth_get _ _ (by rw [gdU_length]; exact h)]; simp [gdU]
theorem gdU_zero (T : Tot lt n) {k : Nat} (h : k < n) : nth (gdU lt n 0) k = 0 := by
  have := (grd_ord T).1 k (by rw [grd_length]; exact h)
  rw [gdU_nth h, if_neg (by omega)]
theorem gdU_all (T : Tot lt n) : gdU lt n n = grd lt n :=
  nth_ext (by rw [gdU_length, grd_length]) fun k hk => by
    rw [gdU_length] at hk
    have := (grd_ord T).1 k (by rw [grd_length]; exact hk)
    rw [grd_length] at this
    rw [gdU_nth hk, if_pos (by omega)]
theorem gdU_next (T : Tot lt n) {t : Nat} (ht : t < n) : (gdU lt n t).set (ahd lt n t) (t : Int) = gdU lt n (t + 1) := by
  have hm := ahd_lt T ht
  have e1 := grd_at T ht
  refine nth_ext (by rw [List.length_set, gdU_length, gdU_length]) fun k hk => ?_
  rw [List.length_set, gdU_length] at hk
  rw [nth_set _ _ _ _ (by rw [gdU_length]; exact hm), gdU_nth hk, gdU_nth hk]
  by_cases e : k = ahd lt n t
  · rw [if_pos e, e, e1, if_pos (by omega)]
  · rw [if_neg e]
    have hne : nth (grd lt n) k ≠ (t : Int) := fun e2 => e ((grd_ord T).inj (by rw [grd_length]; exact hk) (by rw [grd_length]; exact hm) (e2.trans e1.symm))
    by_cases h1 : nth (grd lt n) k < (t : Int)
    · rw [if_pos h1, if_pos (by omega)]
    · rw [if_neg h1, if_neg (by omega)]
end
/-- How many of the first ones are ahead of one. -/
def ahT (lt : Nat → Nat → Bool) (i j : Nat) : Nat := su (fun j => if lt j i = true then 1 else 0) j
theorem ahT_zero (lt : Nat → Nat → Bool) (i : Nat) : ahT lt i 0 = 0 := rfl
theorem ahT_yes {lt : Nat → Nat → Bool} {i j : Nat} (h : lt j i = true) : ahT lt i (j + 1) = ahT lt i j + 1 := by
  show su _ j + (if lt j i = true then 1 else 0) = _
  rw [if_pos h]; rfl
theorem ahT_no {lt : Nat → Nat → Bool} {i j : Nat} (h : lt j i = false) : ahT lt i (j + 1) = ahT lt i j := by
  show su _ j + (if lt j i = true then 1 else 0) = _
  rw [if_neg (by rw [h]; decide)]; rfl
theorem ahT_le (lt : Nat → Nat → Bool) (i : Nat) : ∀ j, ahT lt i j ≤ j
  | 0 => Nat.le_refl _
  | j + 1 => by
    have := ahT_le lt i j
    cases h : lt j i with
    | true => rw [ahT_yes h]; omega
    | false => rw [ahT_no h]; omega
theorem cmpL_bd : ∀ a b : List Int, -1 ≤ cmpL a b ∧ cmpL a b ≤ 1
  | [], [] => by decide
  | [], _ :: _ => by show -1 ≤ (0 : Int) ∧ (0 : Int) ≤ 1; omega
  | _ :: _, [] => by show -1 ≤ (0 : Int) ∧ (0 : Int) ≤ 1; omega
  | x :: a, y :: b => by
    show -1 ≤ (if x < y then (-1 : Int) else if y < x then 1 else cmpL a b) ∧ (if x < y then (-1 : Int) else if y < x then 1 else cmpL a b) ≤ 1
    have := cmpL_bd a b
    split
    · omega
    · split
      · omega
      · exact this
end Go.Proofs.YteddkfeiikdekaaDoor
