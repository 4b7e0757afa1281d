/-
  The walk of the statement on how many cells a shape has.
-/
import Derived.Test.YtoicddebjmfobaaDoorErr
import Derived.Test.YtoicddebjmfobaaDoorFault
import Derived.Test.YtoicddebjmfobaaDoorRowi
namespace Go.Proofs.YtoicddebjmfobaaDoor
open Go.RowKit
set_option linter.unusedVariables false

set_option maxRecDepth 100000 in
set_option maxHeartbeats 1000000 in
theorem counts_walk (a : Option Addr) (cap : Nat) (zs : List Int) (hreach : zs.length ≤ 9223372036854775807) (w : World) (hg : HasErr w) (hI : IsInts w.heap.size w a zs) :
    Calls Tryd.prog 3 #[.slice a zs.length cap] w fun e w' => e = .returned (.bool true) ∧ Below w.heap.size w w' := by
  have HG : Hid (HasErr w) := hg
  clear hg
  by_cases he : errOf zs = 0
  · have HE : Hid (errOf zs = 0) := he
    clear he
    go_enter Tryd.func3, Tryd.ntmps3
    go_wp2_with fail
    refine (fault_any a cap zs hreach w.heap.size w hI).mono ?_
    rintro e w1 ⟨rfl, rfl⟩
    rw [HE.out]
    go_wp2_with fail
    refine (cells_any a cap zs hreach HE.out w1.heap.size w1 hI).mono ?_
    rintro e w2 ⟨rfl, rfl⟩
    go_wp2_with fail
    refine (count_ok a cap zs hreach w2 hI HE.out).mono ?_
    rintro e w3 ⟨rfl, hB3⟩
    go_wp2_with fail
    refine (error_same 0 w3 (HG.out.below hB3 HG.out.pos)).mono ?_
    rintro e w4 ⟨rfl, hB4⟩
    have hpp : (prod zs == prod zs) = true := by simp
    go_wp2_with fail
    go_ret
    exact ⟨rfl, hB3.trans (hB4.mono hB3.size)⟩
  · have HE : Hid (errOf zs ≠ 0) := he
    have hb : (errOf zs == 0) = false := by simp [he]
    clear he
    go_enter Tryd.func3, Tryd.ntmps3
    go_wp2_with fail
    refine (fault_any a cap zs hreach w.heap.size w hI).mono ?_
    rintro e w1 ⟨rfl, rfl⟩
    go_wp2_with fail
    refine (count_any a cap zs hreach w1 hI).mono ?_
    rintro e w3 ⟨rfl, hB3⟩
    rw [cntOf_bad HE.out]
    go_wp2_with fail
    refine (error_same (errOf zs) w3 (HG.out.below hB3 HG.out.pos)).mono ?_
    rintro e w4 ⟨rfl, hB4⟩
    go_wp2_with fail
    go_ret
    exact ⟨rfl, hB3.trans (hB4.mono hB3.size)⟩
end Go.Proofs.YtoicddebjmfobaaDoor
