/-
  What the reference tells of two numbers, whatever the function.
-/
import Derived.Test.YtmbgomljofngnaaDoorRquo
import Derived.Test.YtmbgomljofngnaaDoorReuc
namespace Go.Proofs.YtmbgomljofngnaaDoor
open Go.RowKit
set_option linter.unusedVariables false

set_option maxHeartbeats 1000000 in
theorem truth_any (t : Bool) (w : World) : Calls Tryd.prog 26 #[.bool t] w fun e w' => e = .returned (.int .i64 (ifV t)) ∧ w' = w := by
  cases t
  · go_enter Tryd.func26, Tryd.ntmps26
    go_wp2_with fail
    go_ret
    exact ⟨rfl, rfl⟩
  · go_enter Tryd.func26, Tryd.ntmps26
    go_wp2_with fail
    go_ret
    exact ⟨rfl, rfl⟩
set_option maxRecDepth 100000 in
set_option maxHeartbeats 1000000 in
theorem ch_6 (a b : Int) (w : World) : Calls Tryd.prog 44 #[.int .i64 6, .int .i64 a, .int .i64 b] w fun e w' => e = .returned (.int .i64 (twoV 6 a b)) ∧ w' = w := by
  by_cases h : a < b
  · have tl : decide (a < b) = true := by simp [h]
    have HV : Hid (twoV 6 a b = b) := by show _ = _; rw [tv6]; omega
    clear h
    go_enter Tryd.func44, Tryd.ntmps44
    go_wp2_with fail
    go_ret
    exact ⟨ret1 HV.out.symm, rfl⟩
  · have tl : decide (a < b) = false := by simp [h]
    have HV : Hid (twoV 6 a b = a) := by show _ = _; rw [tv6]; omega
    clear h
    go_enter Tryd.func44, Tryd.ntmps44
    go_wp2_with fail
    go_ret
    exact ⟨ret1 HV.out.symm, rfl⟩
set_option maxRecDepth 100000 in
set_option maxHeartbeats 1000000 in
theorem ch_7 (a b : Int) (w : World) : Calls Tryd.prog 44 #[.int .i64 7, .int .i64 a, .int .i64 b] w fun e w' => e = .returned (.int .i64 (twoV 7 a b)) ∧ w' = w := by
  by_cases h : a < b
  · have tl : decide (a < b) = true := by simp [h]
    have HV : Hid (twoV 7 a b = a) := by show _ = _; rw [tv7]; omega
    clear h
    go_enter Tryd.func44, Tryd.ntmps44
    go_wp2_with fail
    go_ret
    exact ⟨ret1 HV.out.symm, rfl⟩
  · have tl : decide (a < b) = false := by simp [h]
    have HV : Hid (twoV 7 a b = b) := by show _ = _; rw [tv7]; omega
    clear h
    go_enter Tryd.func44, Tryd.ntmps44
    go_wp2_with fail
    go_ret
    exact ⟨ret1 HV.out.symm, rfl⟩
set_option maxRecDepth 100000 in
set_option maxHeartbeats 1000000 in
theorem ch_8 (a b : Int) (w : World) : Calls Tryd.prog 44 #[.int .i64 8, .int .i64 a, .int .i64 b] w fun e w' => e = .returned (.int .i64 (twoV 8 a b)) ∧ w' = w := by
  rcases (by omega : a < b ∨ a = b ∨ b < a) with h | h | h
  · have tl : decide (a < b) = true := by simp; omega
    have ts : (a == b) = false := by simp; omega
    have HV : Hid (ifV false = twoV 8 a b) := by
      show _ = _
      rw [tv8]
      congr 1
      symm
      simp
      omega
    clear h
    go_enter Tryd.func44, Tryd.ntmps44
    go_wp2_with fail
    refine (truth_any false w).mono ?_
    rintro e w1 ⟨rfl, hw⟩
    subst hw
    go_wp2_with fail
    go_ret
    exact ⟨ret1 HV.out, rfl⟩
  · have tl : decide (a < b) = false := by simp; omega
    have ts : (a == b) = true := by simp; omega
    have HV : Hid (ifV true = twoV 8 a b) := by
      show _ = _
      rw [tv8]
      congr 1
      symm
      simp
      omega
    clear h
    go_enter Tryd.func44, Tryd.ntmps44
    go_wp2_with fail
    refine (truth_any true w).mono ?_
    rintro e w1 ⟨rfl, hw⟩
    subst hw
    go_wp2_with fail
    go_ret
    exact ⟨ret1 HV.out, rfl⟩
  · have tl : decide (a < b) = false := by simp; omega
    have ts : (a == b) = false := by simp; omega
    have HV : Hid (ifV false = twoV 8 a b) := by
      show _ = _
      rw [tv8]
      congr 1
      symm
      simp
      omega
    clear h
    go_enter Tryd.func44, Tryd.ntmps44
    go_wp2_with fail
    refine (truth_any false w).mono ?_
    rintro e w1 ⟨rfl, hw⟩
    subst hw
    go_wp2_with fail
    go_ret
    exact ⟨ret1 HV.out, rfl⟩
set_option maxRecDepth 100000 in
set_option maxHeartbeats 1000000 in
theorem ch_9 (a b : Int) (w : World) : Calls Tryd.prog 44 #[.int .i64 9, .int .i64 a, .int .i64 b] w fun e w' => e = .returned (.int .i64 (twoV 9 a b)) ∧ w' = w := by
  rcases (by omega : a < b ∨ a = b ∨ b < a) with h | h | h
  · have tl : decide (a < b) = true := by simp; omega
    have ts : (a == b) = false := by simp; omega
    have HV : Hid (ifV true = twoV 9 a b) := by
      show _ = _
      rw [tv9]
      congr 1
      symm
      simp
      omega
    clear h
    go_enter Tryd.func44, Tryd.ntmps44
    go_wp2_with fail
    refine (truth_any true w).mono ?_
    rintro e w1 ⟨rfl, hw⟩
    subst hw
    go_wp2_with fail
    go_ret
    exact ⟨ret1 HV.out, rfl⟩
  · have tl : decide (a < b) = false := by simp; omega
    have ts : (a == b) = true := by simp; omega
    have HV : Hid (ifV false = twoV 9 a b) := by
      show _ = _
      rw [tv9]
      congr 1
      symm
      simp
      omega
    clear h
    go_enter Tryd.func44, Tryd.ntmps44
    go_wp2_with fail
    refine (truth_any false w).mono ?_
    rintro e w1 ⟨rfl, hw⟩
    subst hw
    go_wp2_with fail
    go_ret
    exact ⟨ret1 HV.out, rfl⟩
  · have tl : decide (a < b) = false := by simp; omega
    have ts : (a == b) = false := by simp; omega
    have HV : Hid (ifV true = twoV 9 a b) := by
      show _ = _
      rw [tv9]
      congr 1
      symm
      simp
      omega
    clear h
    go_enter Tryd.func44, Tryd.ntmps44
    go_wp2_with fail
    refine (truth_any true w).mono ?_
    rintro e w1 ⟨rfl, hw⟩
    subst hw
    go_wp2_with fail
    go_ret
    exact ⟨ret1 HV.out, rfl⟩
set_option maxRecDepth 100000 in
set_option maxHeartbeats 1000000 in
theorem ch_10 (a b : Int) (w : World) : Calls Tryd.prog 44 #[.int .i64 10, .int .i64 a, .int .i64 b] w fun e w' => e = .returned (.int .i64 (twoV 10 a b)) ∧ w' = w := by
  rcases (by omega : a < b ∨ a = b ∨ b < a) with h | h | h
  · have tl : decide (a < b) = true := by simp; omega
    have ts : (a == b) = false := by simp; omega
    have HV : Hid (ifV true = twoV 10 a b) := by
      show _ = _
      rw [tv10]
      congr 1
      symm
      simp
      omega
    clear h
    go_enter Tryd.func44, Tryd.ntmps44
    go_wp2_with fail
    refine (truth_any true w).mono ?_
    rintro e w1 ⟨rfl, hw⟩
    subst hw
    go_wp2_with fail
    go_ret
    exact ⟨ret1 HV.out, rfl⟩
  · have tl : decide (a < b) = false := by simp; omega
    have ts : (a == b) = true := by simp; omega
    have HV : Hid (ifV false = twoV 10 a b) := by
      show _ = _
      rw [tv10]
      congr 1
      symm
      simp
      omega
    clear h
    go_enter Tryd.func44, Tryd.ntmps44
    go_wp2_with fail
    refine (truth_any false w).mono ?_
    rintro e w1 ⟨rfl, hw⟩
    subst hw
    go_wp2_with fail
    go_ret
    exact ⟨ret1 HV.out, rfl⟩
  · have tl : decide (a < b) = false := by simp; omega
    have ts : (a == b) = false := by simp; omega
    have HV : Hid (ifV false = twoV 10 a b) := by
      show _ = _
      rw [tv10]
      congr 1
      symm
      simp
      omega
    clear h
    go_enter Tryd.func44, Tryd.ntmps44
    go_wp2_with fail
    refine (truth_any false w).mono ?_
    rintro e w1 ⟨rfl, hw⟩
    subst hw
    go_wp2_with fail
    go_ret
    exact ⟨ret1 HV.out, rfl⟩
set_option maxRecDepth 100000 in
set_option maxHeartbeats 1000000 in
theorem ch_11 (a b : Int) (w : World) : Calls Tryd.prog 44 #[.int .i64 11, .int .i64 a, .int .i64 b] w fun e w' => e = .returned (.int .i64 (twoV 11 a b)) ∧ w' = w := by
  rcases (by omega : a < b ∨ a = b ∨ b < a) with h | h | h
  · have tl : decide (a < b) = true := by simp; omega
    have ts : (a == b) = false := by simp; omega
    have HV : Hid (ifV true = twoV 11 a b) := by
      show _ = _
      rw [tv11]
      congr 1
      symm
      simp
      omega
    clear h
    go_enter Tryd.func44, Tryd.ntmps44
    go_wp2_with fail
    refine (truth_any true w).mono ?_
    rintro e w1 ⟨rfl, hw⟩
    subst hw
    go_wp2_with fail
    go_ret
    exact ⟨ret1 HV.out, rfl⟩
  · have tl : decide (a < b) = false := by simp; omega
    have ts : (a == b) = true := by simp; omega
    have HV : Hid (ifV true = twoV 11 a b) := by
      show _ = _
      rw [tv11]
      congr 1
      symm
      simp
      omega
    clear h
    go_enter Tryd.func44, Tryd.ntmps44
    go_wp2_with fail
    refine (truth_any true w).mono ?_
    rintro e w1 ⟨rfl, hw⟩
    subst hw
    go_wp2_with fail
    go_ret
    exact ⟨ret1 HV.out, rfl⟩
  · have tl : decide (a < b) = false := by simp; omega
    have ts : (a == b) = false := by simp; omega
    have HV : Hid (ifV false = twoV 11 a b) := by
      show _ = _
      rw [tv11]
      congr 1
      symm
      simp
      omega
    clear h
    go_enter Tryd.func44, Tryd.ntmps44
    go_wp2_with fail
    refine (truth_any false w).mono ?_
    rintro e w1 ⟨rfl, hw⟩
    subst hw
    go_wp2_with fail
    go_ret
    exact ⟨ret1 HV.out, rfl⟩
set_option maxRecDepth 100000 in
set_option maxHeartbeats 1000000 in
theorem ch_12 (a b : Int) (w : World) : Calls Tryd.prog 44 #[.int .i64 12, .int .i64 a, .int .i64 b] w fun e w' => e = .returned (.int .i64 (twoV 12 a b)) ∧ w' = w := by
  rcases (by omega : a < b ∨ a = b ∨ b < a) with h | h | h
  · have tl : decide (a < b) = true := by simp; omega
    have ts : (a == b) = false := by simp; omega
    have HV : Hid (ifV false = twoV 12 a b) := by
      show _ = _
      rw [tv12]
      congr 1
      symm
      simp
      omega
    clear h
    go_enter Tryd.func44, Tryd.ntmps44
    go_wp2_with fail
    refine (truth_any false w).mono ?_
    rintro e w1 ⟨rfl, hw⟩
    subst hw
    go_wp2_with fail
    go_ret
    exact ⟨ret1 HV.out, rfl⟩
  · have tl : decide (a < b) = false := by simp; omega
    have ts : (a == b) = true := by simp; omega
    have HV : Hid (ifV true = twoV 12 a b) := by
      show _ = _
      rw [tv12]
      congr 1
      symm
      simp
      omega
    clear h
    go_enter Tryd.func44, Tryd.ntmps44
    go_wp2_with fail
    refine (truth_any true w).mono ?_
    rintro e w1 ⟨rfl, hw⟩
    subst hw
    go_wp2_with fail
    go_ret
    exact ⟨ret1 HV.out, rfl⟩
  · have tl : decide (a < b) = false := by simp; omega
    have ts : (a == b) = false := by simp; omega
    have HV : Hid (ifV true = twoV 12 a b) := by
      show _ = _
      rw [tv12]
      congr 1
      symm
      simp
      omega
    clear h
    go_enter Tryd.func44, Tryd.ntmps44
    go_wp2_with fail
    refine (truth_any true w).mono ?_
    rintro e w1 ⟨rfl, hw⟩
    subst hw
    go_wp2_with fail
    go_ret
    exact ⟨ret1 HV.out, rfl⟩
set_option maxRecDepth 100000 in
set_option maxHeartbeats 1000000 in
theorem ch_13 (a b : Int) (w : World) : Calls Tryd.prog 44 #[.int .i64 13, .int .i64 a, .int .i64 b] w fun e w' => e = .returned (.int .i64 (twoV 13 a b)) ∧ w' = w := by
  rcases (by omega : a < b ∨ a = b ∨ b < a) with h | h | h
  · have tl : decide (a < b) = true := by simp; omega
    have ts : (a == b) = false := by simp; omega
    have HV : Hid (ifV false = twoV 13 a b) := by
      show _ = _
      rw [tv13]
      congr 1
      symm
      simp
      omega
    clear h
    go_enter Tryd.func44, Tryd.ntmps44
    go_wp2_with fail
    refine (truth_any false w).mono ?_
    rintro e w1 ⟨rfl, hw⟩
    subst hw
    go_wp2_with fail
    go_ret
    exact ⟨ret1 HV.out, rfl⟩
  · have tl : decide (a < b) = false := by simp; omega
    have ts : (a == b) = true := by simp; omega
    have HV : Hid (ifV false = twoV 13 a b) := by
      show _ = _
      rw [tv13]
      congr 1
      symm
      simp
      omega
    clear h
    go_enter Tryd.func44, Tryd.ntmps44
    go_wp2_with fail
    refine (truth_any false w).mono ?_
    rintro e w1 ⟨rfl, hw⟩
    subst hw
    go_wp2_with fail
    go_ret
    exact ⟨ret1 HV.out, rfl⟩
  · have tl : decide (a < b) = false := by simp; omega
    have ts : (a == b) = false := by simp; omega
    have HV : Hid (ifV true = twoV 13 a b) := by
      show _ = _
      rw [tv13]
      congr 1
      symm
      simp
      omega
    clear h
    go_enter Tryd.func44, Tryd.ntmps44
    go_wp2_with fail
    refine (truth_any true w).mono ?_
    rintro e w1 ⟨rfl, hw⟩
    subst hw
    go_wp2_with fail
    go_ret
    exact ⟨ret1 HV.out, rfl⟩
set_option maxRecDepth 100000 in
set_option maxHeartbeats 1000000 in
theorem ch_14 (a b : Int) (w : World) : Calls Tryd.prog 44 #[.int .i64 14, .int .i64 a, .int .i64 b] w fun e w' => e = .returned (.int .i64 (twoV 14 a b)) ∧ w' = w := by
  have HV : Hid (bitV a b true = twoV 14 a b) := (tv14 a b).symm
  go_enter Tryd.func44, Tryd.ntmps44
  go_wp2_with fail
  refine (rbit_any a b true w).mono ?_
  rintro e w1 ⟨rfl, hw⟩
  subst hw
  go_wp2_with fail
  go_ret
  exact ⟨ret1 HV.out, rfl⟩
set_option maxRecDepth 100000 in
set_option maxHeartbeats 1000000 in
theorem ch_15 (a b : Int) (w : World) : Calls Tryd.prog 44 #[.int .i64 15, .int .i64 a, .int .i64 b] w fun e w' => e = .returned (.int .i64 (twoV 15 a b)) ∧ w' = w := by
  have HV : Hid (bitV a b false = twoV 15 a b) := (tv15 a b).symm
  go_enter Tryd.func44, Tryd.ntmps44
  go_wp2_with fail
  refine (rbit_any a b false w).mono ?_
  rintro e w1 ⟨rfl, hw⟩
  subst hw
  go_wp2_with fail
  go_ret
  exact ⟨ret1 HV.out, rfl⟩
set_option maxRecDepth 100000 in
set_option maxHeartbeats 1000000 in
theorem rtwo_1 (a b : Int) (w : World) : Calls Tryd.prog 25 #[.int .i64 1, .int .i64 a, .int .i64 b] w fun e w' => e = .returned (.tuple #[.int .i64 (twoV 1 a b), .int .i64 (twoE 1 a b)]) ∧ w' = w := by
  go_enter Tryd.func25, Tryd.ntmps25
  go_wp2_with fail
  go_ret2
  exact ⟨ret2i (tv1 a b).symm (te0 (by decide) (by decide) (fun h => absurd h (by decide)) (fun h => absurd h (by decide))).symm, rfl⟩
set_option maxRecDepth 100000 in
set_option maxHeartbeats 1000000 in
theorem rtwo_2 (a b : Int) (w : World) : Calls Tryd.prog 25 #[.int .i64 2, .int .i64 a, .int .i64 b] w fun e w' => e = .returned (.tuple #[.int .i64 (twoV 2 a b), .int .i64 (twoE 2 a b)]) ∧ w' = w := by
  go_enter Tryd.func25, Tryd.ntmps25
  go_wp2_with fail
  go_ret2
  exact ⟨ret2i (tv2 a b).symm (te0 (by decide) (by decide) (fun h => absurd h (by decide)) (fun h => absurd h (by decide))).symm, rfl⟩
set_option maxRecDepth 100000 in
set_option maxHeartbeats 1000000 in
theorem rtwo_3 (a b : Int) (w : World) : Calls Tryd.prog 25 #[.int .i64 3, .int .i64 a, .int .i64 b] w fun e w' => e = .returned (.tuple #[.int .i64 (twoV 3 a b), .int .i64 (twoE 3 a b)]) ∧ w' = w := by
  go_enter Tryd.func25, Tryd.ntmps25
  go_wp2_with fail
  go_ret2
  exact ⟨ret2i (tv3 a b).symm (te0 (by decide) (by decide) (fun h => absurd h (by decide)) (fun h => absurd h (by decide))).symm, rfl⟩
set_option maxRecDepth 100000 in
set_option maxHeartbeats 1000000 in
theorem rtwo_4 (a b : Int) (ha : In64 a) (hb : In64 b) (w : World) : Calls Tryd.prog 25 #[.int .i64 4, .int .i64 a, .int .i64 b] w fun e w' => e = .returned (.tuple #[.int .i64 (twoV 4 a b), .int .i64 (twoE 4 a b)]) ∧ w' = w := by
  by_cases h : b = 0
  · subst h
    clear ha hb
    go_enter Tryd.func25, Tryd.ntmps25
    go_wp2_with fail
    go_ret2
    exact ⟨ret2i (by simp [twoV]) (by simp [twoE]), rfl⟩
  · have tz : (b == 0) = false := by simp [h]
    have HC : Hid (In64 a ∧ In64 b ∧ b ≠ 0) := ⟨ha, hb, h⟩
    clear h ha hb
    go_enter Tryd.func25, Tryd.ntmps25
    go_wp2_with fail
    refine (rquo_any a b HC.out.1 HC.out.2.1 HC.out.2.2 w).mono ?_
    rintro e w1 ⟨rfl, hw⟩
    subst hw
    go_wp2_with fail
    go_ret2
    exact ⟨ret2i (tv4 a b HC.out.2.2).symm (te0 (by decide) (by decide) (fun _ => HC.out.2.2) (fun h => absurd h (by decide))).symm, rfl⟩
set_option maxRecDepth 100000 in
set_option maxHeartbeats 1000000 in
theorem rtwo_5 (a b : Int) (ha : In64 a) (hb : In64 b) (w : World) : Calls Tryd.prog 25 #[.int .i64 5, .int .i64 a, .int .i64 b] w fun e w' => e = .returned (.tuple #[.int .i64 (twoV 5 a b), .int .i64 (twoE 5 a b)]) ∧ w' = w := by
  by_cases h : a = 0
  · subst h
    clear ha hb
    go_enter Tryd.func25, Tryd.ntmps25
    go_wp2_with fail
    go_ret2
    exact ⟨ret2i (by rw [tv5]; simp) (te0 (by decide) (by decide) (fun h => absurd h (by decide)) (fun h => absurd h (by decide))).symm, rfl⟩
  · have tz : (a == 0) = false := by simp [h]
    have HC : Hid (In64 a ∧ In64 b ∧ a ≠ 0) := ⟨ha, hb, h⟩
    have HE : Hid (wrap64 (b - wrap64 (a * divV b a)) = b.fmod a) := by
      show _ = _
      unfold divV
      rw [w_mulr, w_subr, fmod_is]
      exact (ha.fmod hb).same
    clear h ha hb
    go_enter Tryd.func25, Tryd.ntmps25
    go_wp2_with fail
    refine (rquo_any b a HC.out.2.1 HC.out.1 HC.out.2.2 w).mono ?_
    rintro e w1 ⟨rfl, hw⟩
    subst hw
    go_wp2_with fail
    go_ret2
    exact ⟨ret2i (HE.out.trans (tv5 a b).symm) (te0 (by decide) (by decide) (fun h => absurd h (by decide)) (fun h => absurd h (by decide))).symm, rfl⟩
set_option maxRecDepth 100000 in
set_option maxHeartbeats 1000000 in
theorem rtwo_6 (a b : Int) (w : World) : Calls Tryd.prog 25 #[.int .i64 6, .int .i64 a, .int .i64 b] w fun e w' => e = .returned (.tuple #[.int .i64 (twoV 6 a b), .int .i64 (twoE 6 a b)]) ∧ w' = w := by
  go_enter Tryd.func25, Tryd.ntmps25
  go_wp2_with fail
  refine (ch_6 a b w).mono ?_
  rintro e w1 ⟨rfl, hw⟩
  subst hw
  go_wp2_with fail
  go_ret2
  exact ⟨ret2i rfl (te0 (by decide) (by decide) (fun h => absurd h (by decide)) (fun h => absurd h (by decide))).symm, rfl⟩
set_option maxRecDepth 100000 in
set_option maxHeartbeats 1000000 in
theorem rtwo_7 (a b : Int) (w : World) : Calls Tryd.prog 25 #[.int .i64 7, .int .i64 a, .int .i64 b] w fun e w' => e = .returned (.tuple #[.int .i64 (twoV 7 a b), .int .i64 (twoE 7 a b)]) ∧ w' = w := by
  go_enter Tryd.func25, Tryd.ntmps25
  go_wp2_with fail
  refine (ch_7 a b w).mono ?_
  rintro e w1 ⟨rfl, hw⟩
  subst hw
  go_wp2_with fail
  go_ret2
  exact ⟨ret2i rfl (te0 (by decide) (by decide) (fun h => absurd h (by decide)) (fun h => absurd h (by decide))).symm, rfl⟩
set_option maxRecDepth 100000 in
set_option maxHeartbeats 1000000 in
theorem rtwo_8 (a b : Int) (w : World) : Calls Tryd.prog 25 #[.int .i64 8, .int .i64 a, .int .i64 b] w fun e w' => e = .returned (.tuple #[.int .i64 (twoV 8 a b), .int .i64 (twoE 8 a b)]) ∧ w' = w := by
  go_enter Tryd.func25, Tryd.ntmps25
  go_wp2_with fail
  refine (ch_8 a b w).mono ?_
  rintro e w1 ⟨rfl, hw⟩
  subst hw
  go_wp2_with fail
  go_ret2
  exact ⟨ret2i rfl (te0 (by decide) (by decide) (fun h => absurd h (by decide)) (fun h => absurd h (by decide))).symm, rfl⟩
set_option maxRecDepth 100000 in
set_option maxHeartbeats 1000000 in
theorem rtwo_9 (a b : Int) (w : World) : Calls Tryd.prog 25 #[.int .i64 9, .int .i64 a, .int .i64 b] w fun e w' => e = .returned (.tuple #[.int .i64 (twoV 9 a b), .int .i64 (twoE 9 a b)]) ∧ w' = w := by
  go_enter Tryd.func25, Tryd.ntmps25
  go_wp2_with fail
  refine (ch_9 a b w).mono ?_
  rintro e w1 ⟨rfl, hw⟩
  subst hw
  go_wp2_with fail
  go_ret2
  exact ⟨ret2i rfl (te0 (by decide) (by decide) (fun h => absurd h (by decide)) (fun h => absurd h (by decide))).symm, rfl⟩
set_option maxRecDepth 100000 in
set_option maxHeartbeats 1000000 in
theorem rtwo_10 (a b : Int) (w : World) : Calls Tryd.prog 25 #[.int .i64 10, .int .i64 a, .int .i64 b] w fun e w' => e = .returned (.tuple #[.int .i64 (twoV 10 a b), .int .i64 (twoE 10 a b)]) ∧ w' = w := by
  go_enter Tryd.func25, Tryd.ntmps25
  go_wp2_with fail
  refine (ch_10 a b w).mono ?_
  rintro e w1 ⟨rfl, hw⟩
  subst hw
  go_wp2_with fail
  go_ret2
  exact ⟨ret2i rfl (te0 (by decide) (by decide) (fun h => absurd h (by decide)) (fun h => absurd h (by decide))).symm, rfl⟩
set_option maxRecDepth 100000 in
set_option maxHeartbeats 1000000 in
theorem rtwo_11 (a b : Int) (w : World) : Calls Tryd.prog 25 #[.int .i64 11, .int .i64 a, .int .i64 b] w fun e w' => e = .returned (.tuple #[.int .i64 (twoV 11 a b), .int .i64 (twoE 11 a b)]) ∧ w' = w := by
  go_enter Tryd.func25, Tryd.ntmps25
  go_wp2_with fail
  refine (ch_11 a b w).mono ?_
  rintro e w1 ⟨rfl, hw⟩
  subst hw
  go_wp2_with fail
  go_ret2
  exact ⟨ret2i rfl (te0 (by decide) (by decide) (fun h => absurd h (by decide)) (fun h => absurd h (by decide))).symm, rfl⟩
set_option maxRecDepth 100000 in
set_option maxHeartbeats 1000000 in
theorem rtwo_12 (a b : Int) (w : World) : Calls Tryd.prog 25 #[.int .i64 12, .int .i64 a, .int .i64 b] w fun e w' => e = .returned (.tuple #[.int .i64 (twoV 12 a b), .int .i64 (twoE 12 a b)]) ∧ w' = w := by
  go_enter Tryd.func25, Tryd.ntmps25
  go_wp2_with fail
  refine (ch_12 a b w).mono ?_
  rintro e w1 ⟨rfl, hw⟩
  subst hw
  go_wp2_with fail
  go_ret2
  exact ⟨ret2i rfl (te0 (by decide) (by decide) (fun h => absurd h (by decide)) (fun h => absurd h (by decide))).symm, rfl⟩
set_option maxRecDepth 100000 in
set_option maxHeartbeats 1000000 in
theorem rtwo_13 (a b : Int) (w : World) : Calls Tryd.prog 25 #[.int .i64 13, .int .i64 a, .int .i64 b] w fun e w' => e = .returned (.tuple #[.int .i64 (twoV 13 a b), .int .i64 (twoE 13 a b)]) ∧ w' = w := by
  go_enter Tryd.func25, Tryd.ntmps25
  go_wp2_with fail
  refine (ch_13 a b w).mono ?_
  rintro e w1 ⟨rfl, hw⟩
  subst hw
  go_wp2_with fail
  go_ret2
  exact ⟨ret2i rfl (te0 (by decide) (by decide) (fun h => absurd h (by decide)) (fun h => absurd h (by decide))).symm, rfl⟩
set_option maxRecDepth 100000 in
set_option maxHeartbeats 1000000 in
theorem rtwo_14 (a b : Int) (w : World) : Calls Tryd.prog 25 #[.int .i64 14, .int .i64 a, .int .i64 b] w fun e w' => e = .returned (.tuple #[.int .i64 (twoV 14 a b), .int .i64 (twoE 14 a b)]) ∧ w' = w := by
  go_enter Tryd.func25, Tryd.ntmps25
  go_wp2_with fail
  refine (ch_14 a b w).mono ?_
  rintro e w1 ⟨rfl, hw⟩
  subst hw
  go_wp2_with fail
  go_ret2
  exact ⟨ret2i rfl (te0 (by decide) (by decide) (fun h => absurd h (by decide)) (fun h => absurd h (by decide))).symm, rfl⟩
set_option maxRecDepth 100000 in
set_option maxHeartbeats 1000000 in
theorem rtwo_15 (a b : Int) (w : World) : Calls Tryd.prog 25 #[.int .i64 15, .int .i64 a, .int .i64 b] w fun e w' => e = .returned (.tuple #[.int .i64 (twoV 15 a b), .int .i64 (twoE 15 a b)]) ∧ w' = w := by
  go_enter Tryd.func25, Tryd.ntmps25
  go_wp2_with fail
  refine (ch_15 a b w).mono ?_
  rintro e w1 ⟨rfl, hw⟩
  subst hw
  go_wp2_with fail
  go_ret2
  exact ⟨ret2i rfl (te0 (by decide) (by decide) (fun h => absurd h (by decide)) (fun h => absurd h (by decide))).symm, rfl⟩
set_option maxRecDepth 100000 in
set_option maxHeartbeats 1000000 in
theorem rtwo_16 (a b : Int) (ha : In64 a) (hb : In64 b) (w : World) : Calls Tryd.prog 25 #[.int .i64 16, .int .i64 a, .int .i64 b] w fun e w' => e = .returned (.tuple #[.int .i64 (twoV 16 a b), .int .i64 (twoE 16 a b)]) ∧ w' = w := by
  by_cases h : b < 0
  · have tz : decide (b < 0) = true := by simp [h]
    have HV : Hid (twoV 16 a b = 0 ∧ twoE 16 a b = 6) := by show _ ∧ _; simp [twoV, twoE, h]
    clear h ha hb
    go_enter Tryd.func25, Tryd.ntmps25
    go_wp2_with fail
    go_ret2
    exact ⟨ret2i HV.out.1.symm HV.out.2.symm, rfl⟩
  · have tz : decide (b < 0) = false := by simp [h]
    have HC : Hid (0 ≤ b ∧ b ≤ 9223372036854775807) := ⟨by omega, hb.2⟩
    have HV : Hid (powV a b = twoV 16 a b ∧ 0 = twoE 16 a b) := ⟨(tv16 a b h).symm, (te0 (by decide) (by decide) (fun h => absurd h (by decide)) (fun _ => h)).symm⟩
    clear h ha hb
    go_enter Tryd.func25, Tryd.ntmps25
    go_wp2_with fail
    refine (raised_any a b HC.out.1 HC.out.2 w).mono ?_
    rintro e w1 ⟨rfl, hw⟩
    subst hw
    go_wp2_with fail
    go_ret2
    exact ⟨ret2i HV.out.1 HV.out.2, rfl⟩
set_option maxRecDepth 100000 in
set_option maxHeartbeats 1000000 in
theorem rtwo_other (f a b : Int) (hf : f < 1 ∨ 16 < f) (w : World) : Calls Tryd.prog 25 #[.int .i64 f, .int .i64 a, .int .i64 b] w fun e w' => e = .returned (.tuple #[.int .i64 (twoV f a b), .int .i64 (twoE f a b)]) ∧ w' = w := by
  have HV : Hid (twoV f a b = 0 ∧ twoE f a b = 1) := by
    refine ⟨?_, by simp [twoE, hf]⟩
    unfold twoV
    repeat rw [if_neg (by omega)]
  by_cases h1 : f < 1
  · have t1 : decide (f < 1) = true := by simp [h1]
    clear h1 hf
    go_enter Tryd.func25, Tryd.ntmps25
    go_wp2_with fail
    go_ret2
    exact ⟨ret2i HV.out.1.symm HV.out.2.symm, rfl⟩
  · have t1 : decide (f < 1) = false := by simp [h1]
    have t2 : decide (16 < f) = true := by simp; omega
    clear h1 hf
    go_enter Tryd.func25, Tryd.ntmps25
    go_wp2_with fail
    go_ret2
    exact ⟨ret2i HV.out.1.symm HV.out.2.symm, rfl⟩
theorem rtwo_any (f a b : Int) (ha : In64 a) (hb : In64 b) (w : World) : Calls Tryd.prog 25 #[.int .i64 f, .int .i64 a, .int .i64 b] w fun e w' => e = .returned (.tuple #[.int .i64 (twoV f a b), .int .i64 (twoE f a b)]) ∧ w' = w := by
  by_cases hf : f < 1 ∨ 16 < f
  · exact rtwo_other f a b hf w
  · rcases (by omega : f = 1 ∨ f = 2 ∨ f = 3 ∨ f = 4 ∨ f = 5 ∨ f = 6 ∨ f = 7 ∨ f = 8 ∨ f = 9 ∨ f = 10 ∨ f = 11 ∨ f = 12 ∨ f = 13 ∨ f = 14 ∨ f = 15 ∨ f = 16) with rfl | rfl | rfl | rfl | rfl | rfl | rfl | rfl | rfl | rfl | rfl | rfl | rfl | rfl | rfl | rfl
    · exact rtwo_1 a b w
    · exact rtwo_2 a b w
    · exact rtwo_3 a b w
    · exact rtwo_4 a b ha hb w
    · exact rtwo_5 a b ha hb w
    · exact rtwo_6 a b w
    · exact rtwo_7 a b w
    · exact rtwo_8 a b w
    · exact rtwo_9 a b w
    · exact rtwo_10 a b w
    · exact rtwo_11 a b w
    · exact rtwo_12 a b w
    · exact rtwo_13 a b w
    · exact rtwo_14 a b w
    · exact rtwo_15 a b w
    · exact rtwo_16 a b ha hb w
end Go.Proofs.YtmbgomljofngnaaDoor
