/-
  What the program's Up, Down and Sort tell, in one form.
-/
import Derived.Test.YtmbgomljofngnabPrmq
import Derived.Test.YtmbgomljofngnabCutq
import Derived.Test.YtmbgomljofngnabTurnq
import Derived.Test.YtmbgomljofngnabGrdn
namespace Go.Proofs.Ytmbgomljofngnab
open Go.RowKit
set_option linter.unusedVariables false

/-- How an array may be wrong where its rows are asked for. -/
def gdE (c : Bool) (sz dz : List Int) : Int := if flawE c sz dz ≠ 0 then flawE c sz dz else if sz.length = 0 then 3 else 0
section
variable {c : Bool} {sz dz : List Int}
theorem gdE_zero : gdE c sz dz = 0 ↔ flawE c sz dz = 0 ∧ 0 < sz.length := by
  unfold gdE
  by_cases h : flawE c sz dz = 0
  · rw [if_neg (by simpa using h)]
    by_cases h2 : sz.length = 0
    · rw [if_pos h2]; exact ⟨fun e => absurd e (by decide), fun e => by omega⟩
    · rw [if_neg h2]; exact ⟨fun _ => ⟨h, by omega⟩, fun _ => rfl⟩
  · rw [if_pos h]; exact ⟨fun e => absurd e h, fun e => absurd e.1 h⟩
theorem gdE_flaw (h : flawE c sz dz ≠ 0) : gdE c sz dz = flawE c sz dz := by unfold gdE; rw [if_pos h]
theorem gdE_rank (h : flawE c sz dz = 0) (h2 : sz.length = 0) : gdE c sz dz = 3 := by unfold gdE; rw [if_neg (by simpa using h), if_pos h2]
/-- How many rows, as the program asks. -/
theorem nR_is (h : gdE c sz dz = 0) : nth sz 0 = ((nR sz : Nat) : Int) ∧ nR sz ≤ 4096 := by
  have h1 := gdE_zero.1 h
  have h2 := (errOf_zero.1 (flawE_zero h1.1).1).2.1 (nth sz 0) (nth_mem sz 0 h1.2)
  unfold nR
  omega
theorem lR_is (sz dz : List Int) : lR sz dz = dz.length / nR sz := by
  unfold lR
  split
  · rename_i h; rw [h, Nat.div_zero]
  · rfl
end
/-- The order of rows, and the rows in order. -/
def gdO (dn : Bool) (sz dz : List Int) : List Int := grO dn dz (nR sz) (lR sz dz)
def gdD (sz dz : List Int) : List Int := srD dz (lR sz dz) (gdO false sz dz)
theorem gdO_length {dn : Bool} {sz dz : List Int} : (gdO dn sz dz).length = nR sz := grO_length
theorem gdO_ord (dn : Bool) (sz dz : List Int) : IsOrd (gdO dn sz dz) := grO_ord (lR_le sz dz)
/-- The contract of grade.Up. -/
def CUp : Prop := ∀ (c : Bool) (sa : Option Addr) (sc : Nat) (sz : List Int) (da : Option Addr) (dc : Nat) (dz : List Int) (w : World), sz.length ≤ 9223372036854775807 → dz.length ≤ 9223372036854775807 → IsC w.heap.size w sa sz sc → IsC w.heap.size w da dz dc →
  Calls Try.prog 14 #[.agg #[.bool c, .slice sa sz.length sc, .slice da dz.length dc]] w (UL (gdE c sz dz) (onL (gdE c sz dz) (gdO false sz dz)) w)
/-- The contract of grade.Down. -/
def CDn : Prop := ∀ (c : Bool) (sa : Option Addr) (sc : Nat) (sz : List Int) (da : Option Addr) (dc : Nat) (dz : List Int) (w : World), sz.length ≤ 9223372036854775807 → dz.length ≤ 9223372036854775807 → IsC w.heap.size w sa sz sc → IsC w.heap.size w da dz dc →
  Calls Try.prog 12 #[.agg #[.bool c, .slice sa sz.length sc, .slice da dz.length dc]] w (UL (gdE c sz dz) (onL (gdE c sz dz) (gdO true sz dz)) w)
end Go.Proofs.Ytmbgomljofngnab
