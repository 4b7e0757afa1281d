/-
  Small facts that several walks use: the count of a shape, case by case; boxes and rows of the call's own.
-/
import Derived.Deep.OwnRows
import Derived.RangeFuncRecord
import Derived.Test.YtkfdhnabhpnmcabDoorInts
namespace Go.Proofs.YtkfdhnabhpnmcabDoor
set_option linter.unusedVariables false

theorem ret2s {a : Option Addr} {n m cap : Nat} {v u : Value} (h : n = m) (h2 : v = u) : Ending.returned (.tuple #[.slice a n cap, v]) = .returned (.tuple #[.slice a m cap, u]) := by rw [h, h2]
theorem Tryd.infoInt : (Tryd.prog.info? 3).map (fun i => (i.zero, i.size, i.bytes)) = some (some (.int .i64 0), 1, 8) := by kernel_rfl
theorem nth_replicate (n j : Nat) : nth (List.replicate n 0) j = 0 := by
  by_cases h : j < n
  · simp [nth, h]
  · simp [nth, Nat.le_of_not_lt h]

end Go.Proofs.YtkfdhnabhpnmcabDoor
