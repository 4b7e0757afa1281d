/-
  An array of these cells on one axis, as the program makes it.
-/
import Derived.Laws.Rows
import Derived.Test.YtcpmendkocnlhabBase
namespace Go.Proofs.Ytcpmendkocnlhab
open Go.RowKit
set_option linter.unusedVariables false

set_option maxRecDepth 100000 in
set_option maxHeartbeats 1000000 in
theorem line_any (c : Bool) (a : Option Addr) (cap : Nat) (zs : List Int) (w : World) :
    Calls Try.prog 15 #[.bool c, .slice a zs.length cap] w fun e w' => ∃ sa sc, e = .returned (.agg #[.bool c, .slice sa 1 sc, .slice a zs.length cap]) ∧ NewInts w.heap.size w' sa [(zs.length : Int)] ∧ Below w.heap.size w w' := by
  go_enter Try.func15, Try.ntmps15
  go_wp2_with fail
  refine bodyPost_ret (v := .agg #[.bool c, .slice (some ⟨w.heap.size + 1, 0, none⟩) 1 1, .slice a zs.length cap]) (by simp [results, Try.results15, go_sem]) rfl ⟨some ⟨w.heap.size + 1, 0, none⟩, 1, rfl, ?_, ((Below.refl _ w).alloc (Nat.le_refl _) _).alloc (by simp) _⟩
  have := new_ints1 (w.alloc (.cells #[.bool c, .slice (some ⟨w.heap.size + 1, 0, none⟩) 1 1, .slice a zs.length cap] 24)) 3 zs.length
  rw [World.size_alloc w] at this
  exact this.low (by omega)
end Go.Proofs.Ytcpmendkocnlhab
