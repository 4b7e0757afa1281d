/-
  A matrix put into its own characteristic, as the statement sums it up: number by number, cell by cell.
-/
import Derived.Test.YtjaabemlpiafaabMtf
import Derived.Test.YtjaabemlpiafaabMgu
namespace Go.Proofs.Ytjaabemlpiafaab
open Go.RowKit
set_option linter.unusedVariables false

/-- What stands at a place behind so many powers. -/
def hmG (n : Nat) (A : Mx) (k q : Nat) : Int := wrap64 (sm k fun t => nth (chR n A) t * nth (cls n (pwg n A t)) q)
/-- All places: the first p have one power more. -/
def hmM (n : Nat) (A : Mx) (k p : Nat) : List Int := (List.range (n * n)).map fun q => if q < p then hmG n A (k + 1) q else hmG n A k q
section
variable {n : Nat} {A : Mx} {k p q : Nat}
theorem hmM_len (n : Nat) (A : Mx) (k p : Nat) : (hmM n A k p).length = n * n := by simp [hmM]
theorem hmM_nth (h : q < n * n) : nth (hmM n A k p) q = if q < p then hmG n A (k + 1) q else hmG n A k q := by
  rw [nth_get _ _ (by rw [hmM_len]; exact h)]
  simp [hmM]
theorem hmM_zero (n : Nat) (A : Mx) : hmM n A 0 0 = zer (n * n) := by
  show hmM n A 0 0 = List.replicate (n * n) 0
  refine List.ext_getElem (by simp [hmM]) fun t h1 h2 => ?_
  rw [← nth_get _ _ h1, hmM_nth (by rw [hmM_len] at h1; exact h1), if_neg (by omega), List.getElem_replicate]
  show wrap64 0 = 0
  exact w_small (by decide) (by decide)
theorem hmM_all (n : Nat) (A : Mx) (k : Nat) : hmM n A k (n * n) = hmM n A (k + 1) 0 := by
  unfold hmM
  refine List.map_congr_left fun t ht => ?_
  have : t < n * n := by simpa using ht
  rw [if_pos this, if_neg (by omega)]
theorem hmM_set (h : p < n * n) : (hmM n A k p).set p (hmG n A (k + 1) p) = hmM n A k (p + 1) := by
  refine List.ext_getElem (by rw [List.length_set, hmM_len, hmM_len]) fun t h1 h2 => ?_
  have ht : t < n * n := by rw [hmM_len] at h2; exact h2
  rw [List.getElem_set, ← nth_get _ _ h2, hmM_nth ht]
  by_cases e : p = t
  · rw [if_pos e, if_pos (by omega), e]
  · rw [if_neg e, ← nth_get _ _ (by rw [hmM_len]; exact ht), hmM_nth ht]
    by_cases h3 : t < p
    · rw [if_pos h3, if_pos (by omega)]
    · rw [if_neg h3, if_neg (by omega)]
theorem hmG_next (n : Nat) (A : Mx) (k p : Nat) : hmG n A (k + 1) p = wrap64 (hmG n A k p + wrap64 (nth (chR n A) k * nth (cls n (pwg n A k)) p)) := by
  unfold hmG
  rw [w_addl, w_addr]
  rfl
theorem hmG_end (h : q < n * n) : hmG n A (n + 1) q = 0 := by
  obtain ⟨d1, d2, _⟩ := div_row h
  have key : cg (sm (n + 1) fun t => nth (chR n A) t * nth (cls n (pwg n A t)) q) (sm (n + 1) fun t => chc n A (n - t) * pwM n A t (q / n) (q % n)) := cg.sm fun t ht => by
    rw [chR_nth A ht, cls_nth _ h, show pwg n A t (q / n) (q % n) = wrap64 (pwM n A t (q / n) (q % n)) from if_pos ⟨d1, d2⟩]
    exact cg.mul (cg_w _) (cg_w _)
  unfold cg at key
  unfold hmG
  rw [key, hamilton n A d1 d2]
  exact w_small (by decide) (by decide)
end
end Go.Proofs.Ytjaabemlpiafaab
