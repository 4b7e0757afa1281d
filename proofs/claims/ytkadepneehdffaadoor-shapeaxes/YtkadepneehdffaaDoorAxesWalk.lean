/-
  The walk of the statement on axes in another order.
-/
import Derived.Test.YtkadepneehdffaaDoorErr
import Derived.Test.YtkadepneehdffaaDoorAxes
import Derived.Test.YtkadepneehdffaaDoorAxed
import Derived.Test.YtkadepneehdffaaDoorBase
namespace Go.Proofs.YtkadepneehdffaaDoor
open Go.RowKit
set_option linter.unusedVariables false

theorem ints_same (a : Option Addr) (cap : Nat) (a' : Option Addr) (cap' : Nat) (us : List Int) (hreach : us.length ≤ 9223372036854775807) (n₀ : Nat) (w : World) (hI : IsInts n₀ w a us) (hI' : IsInts n₀ w a' us) :
    Calls Tryd.prog 8 #[.slice a us.length cap, .slice a' us.length cap'] w fun e w' => e = .returned (.bool true) ∧ Below w.heap.size w w' :=
  (ints_any a cap us a' cap' us hreach n₀ w hI hI').mono fun e w' ⟨h1, h2⟩ => ⟨by rw [h1, eqB_true rfl], h2⟩
theorem axVal_short (zs ps : List Int) : (axVal zs ps).length ≤ 6 := by
  by_cases h : axErr zs ps = 0
  · rw [(axVal_spec h).1]; exact (errOf_zero.1 (axErr_zero.1 h).1).1
  · rw [axVal_bad h]; simp

set_option maxRecDepth 100000 in
set_option maxHeartbeats 1000000 in
theorem axes_walk (a : Option Addr) (cap : Nat) (zs : List Int) (a' : Option Addr) (cap' : Nat) (ps : List Int) (hreach : zs.length ≤ 9223372036854775807) (hreach' : ps.length ≤ 9223372036854775807) (w : World) (hg : HasErr w) (hI : IsInts w.heap.size w a zs) (hI' : IsInts w.heap.size w a' ps) :
    Calls Tryd.prog 3 #[.slice a zs.length cap, .slice a' ps.length cap'] w fun e w' => e = .returned (.bool true) ∧ Below w.heap.size w w' := by
  have HG : Hid (HasErr w) := hg
  clear hg
  have hs := axVal_short zs ps
  go_enter Tryd.func3, Tryd.ntmps3
  go_wp2_with fail
  refine (axed_any a cap zs a' cap' ps hreach hreach' w hI hI').mono ?_
  rintro e w1 ⟨g1, c1, rfl, hX1, hB1⟩
  go_wp2_with fail
  refine (axes_any a cap zs a' cap' ps hreach hreach' w1 ((hI.below hB1).mono hB1.size) ((hI'.below hB1).mono hB1.size)).mono ?_
  rintro e w2 ⟨g2, c2, rfl, hX2, hB2'⟩
  have hB2 : Below w.heap.size w w2 := hB1.trans (hB2'.mono hB1.size)
  replace hX1 := (hX1.below hB2').mono hB2'.size
  go_wp2_with fail
  refine (error_same (axErr zs ps) w2 (HG.out.below hB2 HG.out.pos)).mono ?_
  rintro e w3 ⟨rfl, hB3'⟩
  have hB3 : Below w.heap.size w w3 := hB2.trans (hB3'.mono hB2.size)
  replace hX1 := (hX1.below hB3').mono hB3'.size
  replace hX2 := (hX2.below hB3').mono hB3'.size
  go_wp2_with fail
  refine (ints_same g2 c2 g1 c1 (axVal zs ps) (by omega) w3.heap.size w3 hX2 hX1).mono ?_
  rintro e w4 ⟨rfl, hB4'⟩
  have hB4 : Below w.heap.size w w4 := hB3.trans (hB4'.mono hB3.size)
  go_wp2_with fail
  go_ret
  exact ⟨rfl, hB4⟩
end Go.Proofs.YtkadepneehdffaaDoor
