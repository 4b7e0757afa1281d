/-
  The reference's array of so many rows.
-/
import Derived.BigQuiet
import Derived.Test.YtgaelbgeoobgiabMidc
import Derived.Test.YtgaelbgeoobgiabRgg
namespace Go.Proofs.Ytgaelbgeoobgiab
open Go.RowKit
set_option linter.unusedVariables false

set_option maxRecDepth 100000 in
set_option maxHeartbeats 1000000 in
theorem sqr15_any (n : Nat) (a : Option Addr) (l cap : Nat) (w : World) :
    Calls Try.prog 7 #[.int .i64 (n : Nat), .slice a l cap] w fun e w' => ∃ xa, e = .returned (.agg #[.bool false, .slice xa 2 2, .slice a l cap]) ∧ NewC w.heap.size w' xa [(n : Int), (n : Int)] 2 ∧ Below w.heap.size w w' := by
  go_enter Try.func7, Try.ntmps7
  go_wp2_with fail
  refine bodyPost_ret (v := .agg #[.bool false, .slice (some ⟨w.heap.size + 1, 0, none⟩) 2 2, .slice a l cap]) (by simp [results, Try.results7, go_sem]) rfl ?_
  have hl := lit_mid (w.alloc (.cells #[.bool false, .slice (some ⟨w.heap.size + 1, 0, none⟩) 2 2, .slice a l cap] 24)) 3 [(n : Int), (n : Int)] 2 rfl
  rw [World.size_alloc] at hl
  exact ⟨some ⟨w.heap.size + 1, 0, none⟩, rfl, hl.newc (by simp) (by omega), ((Below.refl _ w).alloc (Nat.le_refl _) _).alloc (by simp) _⟩
end Go.Proofs.Ytgaelbgeoobgiab
