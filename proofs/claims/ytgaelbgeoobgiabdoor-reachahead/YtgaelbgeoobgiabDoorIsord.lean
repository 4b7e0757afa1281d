/-
  Is a list each of the numbers below its length once? As the program tells it.
-/
import Derived.Test.YtgaelbgeoobgiabDoorBase
import Derived.Test.YtgaelbgeoobgiabDoorOrdr
namespace Go.Proofs.YtgaelbgeoobgiabDoor
open Go.RowKit
set_option linter.unusedVariables false

/-- Does the number j stand among the first k? -/
def seenB (ps : List Int) (k j : Nat) : Bool := (List.range k).any fun i => nth ps i == (j : Int)
theorem seenB_zero (ps : List Int) (j : Nat) : seenB ps 0 j = false := rfl
theorem seenB_succ (ps : List Int) (k j : Nat) : seenB ps (k + 1) j = (seenB ps k j || nth ps k == (j : Int)) := by
  simp [seenB, List.range_succ]
theorem seenB_iff (ps : List Int) (k j : Nat) : seenB ps k j = true ↔ ∃ i, i < k ∧ nth ps i = j := by
  simp [seenB]
def OrdTo (ps : List Int) (k : Nat) : Prop := (∀ j, j < k → 0 ≤ nth ps j ∧ nth ps j < ps.length) ∧ ∀ i j, i < j → j < k → nth ps i ≠ nth ps j
theorem OrdTo.zero (ps : List Int) : OrdTo ps 0 := ⟨fun j hj => by omega, fun i j _ hj => by omega⟩
theorem OrdTo.step {ps : List Int} {k : Nat} (h : OrdTo ps k) {m : Nat} (hm : nth ps k = m) (h2 : m < ps.length) (h3 : seenB ps k m = false) : OrdTo ps (k + 1) := by
  refine ⟨fun j hj => ?_, fun i j hij hj e => ?_⟩
  · by_cases e : j = k
    · subst e; omega
    · exact h.1 j (by omega)
  · by_cases e2 : j = k
    · subst e2
      have : seenB ps j m = true := (seenB_iff ps j m).2 ⟨i, hij, by rw [e, hm]⟩
      rw [h3] at this; cases this
    · exact h.2 i j hij (by omega) e
theorem ordB_low {ps : List Int} {k : Nat} (hk : k < ps.length) (h : nth ps k < 0) : ordB ps = false := by
  rw [← Bool.not_eq_true, ordB_iff]; intro ho; have := ho.1 k hk; omega
theorem ordB_high {ps : List Int} {k : Nat} (hk : k < ps.length) (h : (ps.length : Int) ≤ nth ps k) : ordB ps = false := by
  rw [← Bool.not_eq_true, ordB_iff]; intro ho; have := ho.1 k hk; omega
theorem ordB_seen {ps : List Int} {k : Nat} (hk : k < ps.length) {m : Nat} (hm : nth ps k = m) (h : seenB ps k m = true) : ordB ps = false := by
  rw [← Bool.not_eq_true, ordB_iff]; intro ho
  obtain ⟨i, hi, e⟩ := (seenB_iff ps k m).1 h
  exact ho.2 i k hi hk (by rw [e, hm])
end Go.Proofs.YtgaelbgeoobgiabDoor
