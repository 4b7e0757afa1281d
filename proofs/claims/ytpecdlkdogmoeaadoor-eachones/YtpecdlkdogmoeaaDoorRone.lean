/-
  What the reference tells of one number.
-/
import Derived.Test.YtpecdlkdogmoeaaDoorOnem
import Derived.Test.YtpecdlkdogmoeaaDoorRet
namespace Go.Proofs.YtpecdlkdogmoeaaDoor
open Go.RowKit
set_option linter.unusedVariables false

set_option maxRecDepth 100000 in
set_option maxHeartbeats 1000000 in
theorem rone_1 (a : Int) (w : World) : Calls Tryd.prog 11 #[.int .i64 1, .int .i64 a] w fun e w' => e = .returned (.tuple #[.int .i64 (oneV 1 a), .int .i64 (oneE 1 a)]) ∧ w' = w := by
  go_enter Tryd.func11, Tryd.ntmps11
  go_wp2_with fail
  go_ret2
  exact ⟨ret2i (by simp [oneV]) (by simp [oneE]), rfl⟩
set_option maxRecDepth 100000 in
set_option maxHeartbeats 1000000 in
theorem rone_2 (a : Int) (w : World) : Calls Tryd.prog 11 #[.int .i64 2, .int .i64 a] w fun e w' => e = .returned (.tuple #[.int .i64 (oneV 2 a), .int .i64 (oneE 2 a)]) ∧ w' = w := by
  go_enter Tryd.func11, Tryd.ntmps11
  go_wp2_with fail
  go_ret2
  exact ⟨ret2i (by simp [oneV]) (by simp [oneE]), rfl⟩
set_option maxRecDepth 100000 in
set_option maxHeartbeats 1000000 in
theorem rone_3 (a : Int) (w : World) : Calls Tryd.prog 11 #[.int .i64 3, .int .i64 a] w fun e w' => e = .returned (.tuple #[.int .i64 (oneV 3 a), .int .i64 (oneE 3 a)]) ∧ w' = w := by
  by_cases h0 : a = 0
  · subst h0
    go_enter Tryd.func11, Tryd.ntmps11
    go_wp2_with fail
    go_ret2
    exact ⟨ret2i (by simp [oneV]) (by simp [oneE]), rfl⟩
  · have t0 : (a == 0) = false := by simp [h0]
    by_cases h1 : 0 < a
    · have t1 : decide (0 < a) = true := by simp [h1]
      have HV : Hid (oneV 3 a = 1) := by show _ = _; simp [oneV, h0, h1]
      clear h0 h1
      go_enter Tryd.func11, Tryd.ntmps11
      go_wp2_with fail
      go_ret2
      exact ⟨ret2i HV.out.symm (by simp [oneE]), rfl⟩
    · have t1 : decide (0 < a) = false := by simp [h1]
      have HV : Hid (oneV 3 a = -1) := by show _ = _; simp [oneV, h0, h1]
      clear h0 h1
      go_enter Tryd.func11, Tryd.ntmps11
      go_wp2_with fail
      go_ret2
      exact ⟨ret2i HV.out.symm (by simp [oneE]), rfl⟩
set_option maxRecDepth 100000 in
set_option maxHeartbeats 1000000 in
theorem rone_5 (a : Int) (w : World) : Calls Tryd.prog 11 #[.int .i64 5, .int .i64 a] w fun e w' => e = .returned (.tuple #[.int .i64 (oneV 5 a), .int .i64 (oneE 5 a)]) ∧ w' = w := by
  by_cases h0 : 0 ≤ a
  · have t0 : decide (0 ≤ a) = true := by simp [h0]
    have HV : Hid (oneV 5 a = a) := by show _ = _; simp [oneV, h0]
    clear h0
    go_enter Tryd.func11, Tryd.ntmps11
    go_wp2_with fail
    go_ret2
    exact ⟨ret2i HV.out.symm (by simp [oneE]), rfl⟩
  · have t0 : decide (0 ≤ a) = false := by simp [h0]
    have HV : Hid (oneV 5 a = wrap64 (-a)) := by show _ = _; simp [oneV, h0]
    clear h0
    go_enter Tryd.func11, Tryd.ntmps11
    go_wp2_with fail
    go_ret2
    exact ⟨ret2i HV.out.symm (by simp [oneE]), rfl⟩
set_option maxRecDepth 100000 in
set_option maxHeartbeats 1000000 in
theorem rone_17 (a : Int) (w : World) : Calls Tryd.prog 11 #[.int .i64 17, .int .i64 a] w fun e w' => e = .returned (.tuple #[.int .i64 (oneV 17 a), .int .i64 (oneE 17 a)]) ∧ w' = w := by
  by_cases h0 : a = 0
  · subst h0
    go_enter Tryd.func11, Tryd.ntmps11
    go_wp2_with fail
    go_ret2
    exact ⟨ret2i (by simp [oneV]) (by simp [oneE]), rfl⟩
  · by_cases h1 : a = 1
    · subst h1
      go_enter Tryd.func11, Tryd.ntmps11
      go_wp2_with fail
      go_ret2
      exact ⟨ret2i (by simp [oneV]) (by simp [oneE]), rfl⟩
    · have t0 : (a == 0) = false := by simp [h0]
      have t1 : (a == 1) = false := by simp [h1]
      have HV : Hid (oneV 17 a = 0 ∧ oneE 17 a = 6) := by show _ ∧ _; simp [oneV, oneE, h0, h1]
      clear h0 h1
      go_enter Tryd.func11, Tryd.ntmps11
      go_wp2_with fail
      go_ret2
      exact ⟨ret2i HV.out.1.symm HV.out.2.symm, rfl⟩
set_option maxRecDepth 100000 in
set_option maxHeartbeats 1000000 in
theorem rone_other (f a : Int) (hf : f ≠ 1 ∧ f ≠ 2 ∧ f ≠ 3 ∧ f ≠ 5 ∧ f ≠ 17) (w : World) : Calls Tryd.prog 11 #[.int .i64 f, .int .i64 a] w fun e w' => e = .returned (.tuple #[.int .i64 (oneV f a), .int .i64 (oneE f a)]) ∧ w' = w := by
  have HV : Hid (oneV f a = 0 ∧ oneE f a = 1) := by
    obtain ⟨h1, h2, h3, h5, h17⟩ := hf
    show _ ∧ _
    simp [oneV, oneE, h1, h2, h3, h5, h17]
  have n1 : (f == 1) = false := by simp; omega
  have n2 : (f == 2) = false := by simp; omega
  have n3 : (f == 3) = false := by simp; omega
  have n5 : (f == 5) = false := by simp; omega
  have n17 : (f == 17) = false := by simp; omega
  clear hf
  go_enter Tryd.func11, Tryd.ntmps11
  go_wp2_with fail
  go_ret2
  exact ⟨ret2i HV.out.1.symm HV.out.2.symm, rfl⟩
theorem rone_any (f a : Int) (w : World) : Calls Tryd.prog 11 #[.int .i64 f, .int .i64 a] w fun e w' => e = .returned (.tuple #[.int .i64 (oneV f a), .int .i64 (oneE f a)]) ∧ w' = w := by
  by_cases hf : f ≠ 1 ∧ f ≠ 2 ∧ f ≠ 3 ∧ f ≠ 5 ∧ f ≠ 17
  · exact rone_other f a hf w
  · rcases (by omega : f = 1 ∨ f = 2 ∨ f = 3 ∨ f = 5 ∨ f = 17) with rfl | rfl | rfl | rfl | rfl
    · exact rone_1 a w
    · exact rone_2 a w
    · exact rone_3 a w
    · exact rone_5 a w
    · exact rone_17 a w
end Go.Proofs.YtpecdlkdogmoeaaDoor
