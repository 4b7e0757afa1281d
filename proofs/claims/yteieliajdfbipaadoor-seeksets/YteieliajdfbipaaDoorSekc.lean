/-
  The document's answer, as the walks over named worlds take it.
-/
import Derived.Test.YteieliajdfbipaaDoorRmove
import Derived.Test.YteieliajdfbipaaDoorMidc
namespace Go.Proofs.YteieliajdfbipaaDoor
open Go.RowKit
set_option linter.unusedVariables false

theorem UR.c {e : Int} {c : Bool} {S D : List Int} {w w' : World} {r : Ending} : UR e c S D w r w' → ∃ xa xc ya yc, r = .returned (.tuple #[.agg #[.bool c, .slice xa S.length xc, .slice ya D.length yc], .int .i64 e]) ∧ NewC w.heap.size w' xa S S.length ∧ NewC w.heap.size w' ya D D.length ∧ Below w.heap.size w w'
  | ⟨xa, xc, ya, yc, h, h1, h2, h3⟩ => ⟨xa, xc, ya, yc, h, ⟨h1, Nat.le_refl _⟩, ⟨h2, Nat.le_refl _⟩, h3⟩
end Go.Proofs.YteieliajdfbipaaDoor
