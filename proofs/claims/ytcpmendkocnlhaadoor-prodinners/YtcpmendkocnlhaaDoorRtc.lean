/-
  What the reference tells of two cells, characters or numbers.
-/
import Derived.Test.YtcpmendkocnlhaaDoorRtwo
import Derived.Test.YtcpmendkocnlhaaDoorEachm
namespace Go.Proofs.YtcpmendkocnlhaaDoor
open Go.RowKit
set_option linter.unusedVariables false

set_option maxHeartbeats 1000000 in
theorem compares_any (f : Int) (w : World) : Calls Tryd.prog 13 #[.int .i64 f] w fun e w' => e = .returned (.bool (decide (f = 8 ∨ f = 9))) ∧ w' = w := by
  by_cases h8 : f = 8
  · subst h8
    go_enter Tryd.func13, Tryd.ntmps13
    go_wp2_with fail
    go_ret
    exact ⟨rfl, rfl⟩
  · have t8 : (f == 8) = false := by rw [beq_eq_false_iff_ne]; exact h8
    have HD : Hid ((f == 9) = decide (f = 8 ∨ f = 9)) := by
      show _ = _
      by_cases h9 : f = 9
      · subst h9; rfl
      · rw [decide_eq_false (by omega)]; exact beq_eq_false_iff_ne.2 h9
    clear h8
    go_enter Tryd.func13, Tryd.ntmps13
    go_wp2_with fail
    go_ret
    exact ⟨ret_bool HD.out, rfl⟩
set_option maxHeartbeats 1000000 in
theorem twocells_any (f : Int) (c : Bool) (a : Int) (c' : Bool) (b : Int) (ha : In64 a) (hb : In64 b) (w : World) :
    Calls Tryd.prog 17 #[.int .i64 f, .bool c, .int .i64 a, .bool c', .int .i64 b] w fun e w' => e = .returned (.tuple #[.int .i64 (tcV f (c == c') a b), .int .i64 (tcE f (c == c') a b)]) ∧ w' = w := by
  by_cases h : c = c'
  · have te : (c == c') = true := by simpa using h
    have HV : Hid (tcV f (c == c') a b = twoV f a b ∧ tcE f (c == c') a b = twoE f a b) := by rw [te]; exact ⟨rfl, rfl⟩
    clear h
    go_enter Tryd.func17, Tryd.ntmps17
    go_wp2_with fail
    refine (rtwo_any f a b ha hb w).mono ?_
    rintro e w1 ⟨rfl, hw⟩
    subst hw
    go_wp2_with fail
    go_ret2
    exact ⟨ret2i HV.out.1.symm HV.out.2.symm, rfl⟩
  · have te : (c == c') = false := by simpa using h
    have HV : Hid (tcV f (c == c') a b = ifV (f == 9) ∧ tcE f (c == c') a b = 0) := by
      rw [te]
      exact ⟨rfl, rfl⟩
    clear h
    go_enter Tryd.func17, Tryd.ntmps17
    go_wp2_with fail
    refine (truth_any (f == 9) w).mono ?_
    rintro e w1 ⟨rfl, hw⟩
    subst hw
    go_wp2_with fail
    go_ret2
    exact ⟨ret2i HV.out.1.symm HV.out.2.symm, rfl⟩
end Go.Proofs.YtcpmendkocnlhaaDoor
