/-
  Two numbers that are told.
-/
import Derived.Test.YtmbgomljofngnaaDoorBase
namespace Go.Proofs.YtmbgomljofngnaaDoor
open Go.RowKit
set_option linter.unusedVariables false

theorem ret2i {a b c d : Int} (h : a = b) (h2 : c = d) : Ending.returned (.tuple #[.int .i64 a, .int .i64 c]) = .returned (.tuple #[.int .i64 b, .int .i64 d]) := by rw [h, h2]
end Go.Proofs.YtmbgomljofngnaaDoor
