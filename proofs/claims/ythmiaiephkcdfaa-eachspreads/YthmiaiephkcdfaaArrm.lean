/-
  Plain mathematics of arrays: characters, faults; nothing of the program.
-/
import Derived.Test.YthmiaiephkcdfaaPlain
namespace Go.Proofs.Ythmiaiephkcdfaa
open Go.RowKit
set_option linter.unusedVariables false

/-- Is a number a character's? -/
def chOk (x : Int) : Bool := decide (0 ≤ x ∧ x < 55296) || decide (57343 < x ∧ x ≤ 1114111)
def chAll (ds : List Int) : Bool := ds.all chOk
/-- The fault of an array: 0: none. -/
def flawE (c : Bool) (zs ds : List Int) : Int := if errOf zs ≠ 0 then errOf zs else if (ds.length : Int) ≠ prod zs then 4 else if c = true ∧ chAll ds = false then 6 else 0
theorem chAll_snoc {ds : List Int} {k : Nat} (hk : k < ds.length) (h : chAll (ds.take k) = true) (hx : chOk (nth ds k) = true) : chAll (ds.take (k + 1)) = true := by
  unfold chAll at *
  rw [List.take_succ_eq_append_getElem hk, ← nth_get ds k hk, List.all_append, h]
  simp [hx]
theorem chAll_bad {ds : List Int} {k : Nat} (hk : k < ds.length) (hx : chOk (nth ds k) = false) : chAll ds = false := by
  unfold chAll
  rw [List.all_eq_false]
  exact ⟨nth ds k, nth_mem ds k hk, by simp [hx]⟩
end Go.Proofs.Ythmiaiephkcdfaa
