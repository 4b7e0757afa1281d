/-
  The walk of the statement PermTimes, given what the program tells.
-/
import Derived.Test.YtcblakcaoecgpabPrmt
namespace Go.Proofs.Ytcblakcaoecgpab
open Go.RowKit
set_option linter.unusedVariables false

theorem lit_all {xs : List Int} (h : xs.all (fun x => decide (-9223372036854775808 ≤ x ∧ x ≤ 9223372036854775807)) = true) : ∀ j, In64 (nth xs j) := fun j => by
  by_cases hj : j < xs.length
  · have : nth xs j ∈ xs := by simp [nth, hj]
    exact of_decide_eq_true (p := -9223372036854775808 ≤ nth xs j ∧ nth xs j ≤ 9223372036854775807) (List.all_eq_true.1 h _ this)
  · have : nth xs j = 0 := by simp [nth, List.getElem?_eq_none (Nat.le_of_not_lt hj)]
    rw [this]; unfold In64; decide
set_option maxRecDepth 100000 in
set_option maxHeartbeats 8000000 in
theorem times_no1 (HW : CPw) (HA : CPa) (HY : CPy) (a1 : Option Addr) (c1 : Nat) (p1 : List Int) (x1 : p1.length ≤ 9223372036854775807) (T1 : ∀ j, In64 (nth p1 j)) (j k : Int) (hj64 : In64 j) (hk64 : In64 k) (w : World) (w1 : IsInts w.heap.size w a1 p1) (F1 : Hid (¬ (-1099511627776 ≤ j ∧ j ≤ 1099511627776))) :
    Calls Try.prog 3 #[.slice a1 p1.length c1, .int .i64 j, .int .i64 k] w fun e w' => e = .returned (.bool true) ∧ Below w.heap.size w w' := by
  have HI1 : Hid (IsInts w.heap.size w a1 p1 ∧ ∀ j, In64 (nth p1 j)) := ⟨w1, T1⟩
  clear w1 T1
  have n1 := lit_mid w 3 [1, 2, 0] 3 rfl
  simp only [List.map_cons, List.map_nil] at n1
  go_enter Try.func3, Try.ntmps3
  go_wp2_with fail
  obtain ⟨wo2, hwo2⟩ : ∃ wo2, wo2 = (w.alloc (.cells #[.int .i64 1, .int .i64 2, .int .i64 0] 3)) := ⟨_, rfl⟩
  rw [← hwo2]
  have z3 : w.heap.size + 1 ≤ wo2.heap.size := by rw [hwo2]; simp only [World.size_alloc]; omega
  have L4 : Hid (MidC (w.heap.size) (w.heap.size + 1) wo2 (some ⟨w.heap.size, 0, none⟩) ([1, 2, 0]) (3)) := by rw [hwo2]; exact n1
  have hb5 : Hid (Below w.heap.size w wo2) := by rw [hwo2]; exact ((Below.refl w.heap.size w).alloc (by omega) (.cells #[.int .i64 1, .int .i64 2, .int .i64 0] 3))
  have zwo2 : w.heap.size ≤ wo2.heap.size := hb5.out.size
  clear hwo2 n1
  refine (pw_ok (some ⟨w.heap.size, 0, none⟩) 3 [1, 2, 0] 3 rfl 2 _ (by decide) (L4.out.is (by omega)).1 (lit_all (by decide)) (by unfold In64; decide) [2, 0, 1] HW (by decide)).mono ?_
  rintro e v1 ⟨g0, gc0, rfl, hN0, hB⟩
  have z6 : wo2.heap.size ≤ v1.heap.size := hB.size
  have L7 : Hid (MidC (w.heap.size) (w.heap.size + 1) v1 (some ⟨w.heap.size, 0, none⟩) ([1, 2, 0]) (3)) := L4.out.go (by omega) hB
  have hb8 : Hid (Below w.heap.size w v1) := hb5.out.trans (hB.mono hb5.out.size)
  have L9 : Hid (MidC (wo2.heap.size) (v1.heap.size) v1 (g0) ([2, 0, 1]) (gc0)) := hN0.midc
  clear hB hb5 L4 hN0
  clear L7
  have n10 := lit_mid v1 3 [2, 0, 1] 3 rfl
  simp only [List.map_cons, List.map_nil] at n10
  go_wp2_with fail
  obtain ⟨wo11, hwo11⟩ : ∃ wo11, wo11 = (v1.alloc (.cells #[.int .i64 2, .int .i64 0, .int .i64 1] 3)) := ⟨_, rfl⟩
  rw [← hwo11]
  have z12 : v1.heap.size + 1 ≤ wo11.heap.size := by rw [hwo11]; simp only [World.size_alloc]; omega
  have L13 : Hid (MidC (wo2.heap.size) (v1.heap.size) wo11 (g0) ([2, 0, 1]) (gc0)) := by rw [hwo11]; exact (L9.out.al (by omega) (.cells #[.int .i64 2, .int .i64 0, .int .i64 1] 3))
  have L14 : Hid (MidC (v1.heap.size) (v1.heap.size + 1) wo11 (some ⟨v1.heap.size, 0, none⟩) ([2, 0, 1]) (3)) := by rw [hwo11]; exact n10
  have hb15 : Hid (Below w.heap.size w wo11) := by rw [hwo11]; exact (hb8.out.alloc (by omega) (.cells #[.int .i64 2, .int .i64 0, .int .i64 1] 3))
  have zwo11 : w.heap.size ≤ wo11.heap.size := hb15.out.size
  clear hwo11 n10 hb8 L9
  refine (ints_any g0 gc0 [2, 0, 1] (some ⟨v1.heap.size, 0, none⟩) 3 [2, 0, 1] (by simp) _ _ (L13.out.is (by omega)).1 (L14.out.is (by omega)).1).mono ?_
  rintro e v2 ⟨rfl, hB⟩
  have z16 : wo11.heap.size ≤ v2.heap.size := hB.size
  have L17 : Hid (MidC (wo2.heap.size) (v1.heap.size) v2 (g0) ([2, 0, 1]) (gc0)) := L13.out.go (by omega) hB
  have L18 : Hid (MidC (v1.heap.size) (v1.heap.size + 1) v2 (some ⟨v1.heap.size, 0, none⟩) ([2, 0, 1]) (3)) := L14.out.go (by omega) hB
  have hb19 : Hid (Below w.heap.size w v2) := hb15.out.trans (hB.mono hb15.out.size)
  clear hB hb15 L13 L14
  rw [eqB_true rfl]
  clear L17 L18
  go_wp2_with fail
  refine (within_no j _ _ F1.out _).mono ?_
  rintro e v3 ⟨rfl, hB⟩
  have z20 : v2.heap.size ≤ v3.heap.size := hB.size
  have hb21 : Hid (Below w.heap.size w v3) := hb19.out.trans (hB.mono hb19.out.size)
  clear hB hb19
  go_wp2_with fail
  go_ret
  exact ⟨rfl, hb21.out⟩
set_option maxRecDepth 100000 in
set_option maxHeartbeats 8000000 in
theorem times_no2 (HW : CPw) (HA : CPa) (HY : CPy) (a1 : Option Addr) (c1 : Nat) (p1 : List Int) (x1 : p1.length ≤ 9223372036854775807) (T1 : ∀ j, In64 (nth p1 j)) (j k : Int) (hj64 : In64 j) (hk64 : In64 k) (w : World) (w1 : IsInts w.heap.size w a1 p1) (F1 : Hid (-1099511627776 ≤ j ∧ j ≤ 1099511627776)) (F2 : Hid (¬ (-1099511627776 ≤ k ∧ k ≤ 1099511627776))) :
    Calls Try.prog 3 #[.slice a1 p1.length c1, .int .i64 j, .int .i64 k] w fun e w' => e = .returned (.bool true) ∧ Below w.heap.size w w' := by
  have HI1 : Hid (IsInts w.heap.size w a1 p1 ∧ ∀ j, In64 (nth p1 j)) := ⟨w1, T1⟩
  clear w1 T1
  have n1 := lit_mid w 3 [1, 2, 0] 3 rfl
  simp only [List.map_cons, List.map_nil] at n1
  go_enter Try.func3, Try.ntmps3
  go_wp2_with fail
  obtain ⟨wo2, hwo2⟩ : ∃ wo2, wo2 = (w.alloc (.cells #[.int .i64 1, .int .i64 2, .int .i64 0] 3)) := ⟨_, rfl⟩
  rw [← hwo2]
  have z3 : w.heap.size + 1 ≤ wo2.heap.size := by rw [hwo2]; simp only [World.size_alloc]; omega
  have L4 : Hid (MidC (w.heap.size) (w.heap.size + 1) wo2 (some ⟨w.heap.size, 0, none⟩) ([1, 2, 0]) (3)) := by rw [hwo2]; exact n1
  have hb5 : Hid (Below w.heap.size w wo2) := by rw [hwo2]; exact ((Below.refl w.heap.size w).alloc (by omega) (.cells #[.int .i64 1, .int .i64 2, .int .i64 0] 3))
  have zwo2 : w.heap.size ≤ wo2.heap.size := hb5.out.size
  clear hwo2 n1
  refine (pw_ok (some ⟨w.heap.size, 0, none⟩) 3 [1, 2, 0] 3 rfl 2 _ (by decide) (L4.out.is (by omega)).1 (lit_all (by decide)) (by unfold In64; decide) [2, 0, 1] HW (by decide)).mono ?_
  rintro e v1 ⟨g0, gc0, rfl, hN0, hB⟩
  have z6 : wo2.heap.size ≤ v1.heap.size := hB.size
  have L7 : Hid (MidC (w.heap.size) (w.heap.size + 1) v1 (some ⟨w.heap.size, 0, none⟩) ([1, 2, 0]) (3)) := L4.out.go (by omega) hB
  have hb8 : Hid (Below w.heap.size w v1) := hb5.out.trans (hB.mono hb5.out.size)
  have L9 : Hid (MidC (wo2.heap.size) (v1.heap.size) v1 (g0) ([2, 0, 1]) (gc0)) := hN0.midc
  clear hB hb5 L4 hN0
  clear L7
  have n10 := lit_mid v1 3 [2, 0, 1] 3 rfl
  simp only [List.map_cons, List.map_nil] at n10
  go_wp2_with fail
  obtain ⟨wo11, hwo11⟩ : ∃ wo11, wo11 = (v1.alloc (.cells #[.int .i64 2, .int .i64 0, .int .i64 1] 3)) := ⟨_, rfl⟩
  rw [← hwo11]
  have z12 : v1.heap.size + 1 ≤ wo11.heap.size := by rw [hwo11]; simp only [World.size_alloc]; omega
  have L13 : Hid (MidC (wo2.heap.size) (v1.heap.size) wo11 (g0) ([2, 0, 1]) (gc0)) := by rw [hwo11]; exact (L9.out.al (by omega) (.cells #[.int .i64 2, .int .i64 0, .int .i64 1] 3))
  have L14 : Hid (MidC (v1.heap.size) (v1.heap.size + 1) wo11 (some ⟨v1.heap.size, 0, none⟩) ([2, 0, 1]) (3)) := by rw [hwo11]; exact n10
  have hb15 : Hid (Below w.heap.size w wo11) := by rw [hwo11]; exact (hb8.out.alloc (by omega) (.cells #[.int .i64 2, .int .i64 0, .int .i64 1] 3))
  have zwo11 : w.heap.size ≤ wo11.heap.size := hb15.out.size
  clear hwo11 n10 hb8 L9
  refine (ints_any g0 gc0 [2, 0, 1] (some ⟨v1.heap.size, 0, none⟩) 3 [2, 0, 1] (by simp) _ _ (L13.out.is (by omega)).1 (L14.out.is (by omega)).1).mono ?_
  rintro e v2 ⟨rfl, hB⟩
  have z16 : wo11.heap.size ≤ v2.heap.size := hB.size
  have L17 : Hid (MidC (wo2.heap.size) (v1.heap.size) v2 (g0) ([2, 0, 1]) (gc0)) := L13.out.go (by omega) hB
  have L18 : Hid (MidC (v1.heap.size) (v1.heap.size + 1) v2 (some ⟨v1.heap.size, 0, none⟩) ([2, 0, 1]) (3)) := L14.out.go (by omega) hB
  have hb19 : Hid (Below w.heap.size w v2) := hb15.out.trans (hB.mono hb15.out.size)
  clear hB hb15 L13 L14
  rw [eqB_true rfl]
  clear L17 L18
  go_wp2_with fail
  refine (within_ok j _ _ F1.out _).mono ?_
  rintro e v3 ⟨rfl, hB⟩
  have z20 : v2.heap.size ≤ v3.heap.size := hB.size
  have hb21 : Hid (Below w.heap.size w v3) := hb19.out.trans (hB.mono hb19.out.size)
  clear hB hb19
  go_wp2_with fail
  refine (within_no k _ _ F2.out _).mono ?_
  rintro e v4 ⟨rfl, hB⟩
  have z22 : v3.heap.size ≤ v4.heap.size := hB.size
  have hb23 : Hid (Below w.heap.size w v4) := hb21.out.trans (hB.mono hb21.out.size)
  clear hB hb21
  go_wp2_with fail
  go_ret
  exact ⟨rfl, hb23.out⟩
set_option maxRecDepth 100000 in
set_option maxHeartbeats 8000000 in
theorem times_no3 (HW : CPw) (HA : CPa) (HY : CPy) (a1 : Option Addr) (c1 : Nat) (p1 : List Int) (x1 : p1.length ≤ 9223372036854775807) (T1 : ∀ j, In64 (nth p1 j)) (j k : Int) (hj64 : In64 j) (hk64 : In64 k) (w : World) (w1 : IsInts w.heap.size w a1 p1) (F1 : Hid (-1099511627776 ≤ j ∧ j ≤ 1099511627776)) (F2 : Hid (-1099511627776 ≤ k ∧ k ≤ 1099511627776)) (F3 : Hid (orE p1 ≠ 0)) :
    Calls Try.prog 3 #[.slice a1 p1.length c1, .int .i64 j, .int .i64 k] w fun e w' => e = .returned (.bool true) ∧ Below w.heap.size w w' := by
  have HI1 : Hid (IsInts w.heap.size w a1 p1 ∧ ∀ j, In64 (nth p1 j)) := ⟨w1, T1⟩
  clear w1 T1
  have n1 := lit_mid w 3 [1, 2, 0] 3 rfl
  simp only [List.map_cons, List.map_nil] at n1
  go_enter Try.func3, Try.ntmps3
  go_wp2_with fail
  obtain ⟨wo2, hwo2⟩ : ∃ wo2, wo2 = (w.alloc (.cells #[.int .i64 1, .int .i64 2, .int .i64 0] 3)) := ⟨_, rfl⟩
  rw [← hwo2]
  have z3 : w.heap.size + 1 ≤ wo2.heap.size := by rw [hwo2]; simp only [World.size_alloc]; omega
  have L4 : Hid (MidC (w.heap.size) (w.heap.size + 1) wo2 (some ⟨w.heap.size, 0, none⟩) ([1, 2, 0]) (3)) := by rw [hwo2]; exact n1
  have hb5 : Hid (Below w.heap.size w wo2) := by rw [hwo2]; exact ((Below.refl w.heap.size w).alloc (by omega) (.cells #[.int .i64 1, .int .i64 2, .int .i64 0] 3))
  have zwo2 : w.heap.size ≤ wo2.heap.size := hb5.out.size
  clear hwo2 n1
  refine (pw_ok (some ⟨w.heap.size, 0, none⟩) 3 [1, 2, 0] 3 rfl 2 _ (by decide) (L4.out.is (by omega)).1 (lit_all (by decide)) (by unfold In64; decide) [2, 0, 1] HW (by decide)).mono ?_
  rintro e v1 ⟨g0, gc0, rfl, hN0, hB⟩
  have z6 : wo2.heap.size ≤ v1.heap.size := hB.size
  have L7 : Hid (MidC (w.heap.size) (w.heap.size + 1) v1 (some ⟨w.heap.size, 0, none⟩) ([1, 2, 0]) (3)) := L4.out.go (by omega) hB
  have hb8 : Hid (Below w.heap.size w v1) := hb5.out.trans (hB.mono hb5.out.size)
  have L9 : Hid (MidC (wo2.heap.size) (v1.heap.size) v1 (g0) ([2, 0, 1]) (gc0)) := hN0.midc
  clear hB hb5 L4 hN0
  clear L7
  have n10 := lit_mid v1 3 [2, 0, 1] 3 rfl
  simp only [List.map_cons, List.map_nil] at n10
  go_wp2_with fail
  obtain ⟨wo11, hwo11⟩ : ∃ wo11, wo11 = (v1.alloc (.cells #[.int .i64 2, .int .i64 0, .int .i64 1] 3)) := ⟨_, rfl⟩
  rw [← hwo11]
  have z12 : v1.heap.size + 1 ≤ wo11.heap.size := by rw [hwo11]; simp only [World.size_alloc]; omega
  have L13 : Hid (MidC (wo2.heap.size) (v1.heap.size) wo11 (g0) ([2, 0, 1]) (gc0)) := by rw [hwo11]; exact (L9.out.al (by omega) (.cells #[.int .i64 2, .int .i64 0, .int .i64 1] 3))
  have L14 : Hid (MidC (v1.heap.size) (v1.heap.size + 1) wo11 (some ⟨v1.heap.size, 0, none⟩) ([2, 0, 1]) (3)) := by rw [hwo11]; exact n10
  have hb15 : Hid (Below w.heap.size w wo11) := by rw [hwo11]; exact (hb8.out.alloc (by omega) (.cells #[.int .i64 2, .int .i64 0, .int .i64 1] 3))
  have zwo11 : w.heap.size ≤ wo11.heap.size := hb15.out.size
  clear hwo11 n10 hb8 L9
  refine (ints_any g0 gc0 [2, 0, 1] (some ⟨v1.heap.size, 0, none⟩) 3 [2, 0, 1] (by simp) _ _ (L13.out.is (by omega)).1 (L14.out.is (by omega)).1).mono ?_
  rintro e v2 ⟨rfl, hB⟩
  have z16 : wo11.heap.size ≤ v2.heap.size := hB.size
  have L17 : Hid (MidC (wo2.heap.size) (v1.heap.size) v2 (g0) ([2, 0, 1]) (gc0)) := L13.out.go (by omega) hB
  have L18 : Hid (MidC (v1.heap.size) (v1.heap.size + 1) v2 (some ⟨v1.heap.size, 0, none⟩) ([2, 0, 1]) (3)) := L14.out.go (by omega) hB
  have hb19 : Hid (Below w.heap.size w v2) := hb15.out.trans (hB.mono hb15.out.size)
  clear hB hb15 L13 L14
  rw [eqB_true rfl]
  clear L17 L18
  go_wp2_with fail
  refine (within_ok j _ _ F1.out _).mono ?_
  rintro e v3 ⟨rfl, hB⟩
  have z20 : v2.heap.size ≤ v3.heap.size := hB.size
  have hb21 : Hid (Below w.heap.size w v3) := hb19.out.trans (hB.mono hb19.out.size)
  clear hB hb19
  go_wp2_with fail
  refine (within_ok k _ _ F2.out _).mono ?_
  rintro e v4 ⟨rfl, hB⟩
  have z22 : v3.heap.size ≤ v4.heap.size := hB.size
  have hb23 : Hid (Below w.heap.size w v4) := hb21.out.trans (hB.mono hb21.out.size)
  clear hB hb21
  go_wp2_with fail
  refine (pw_no a1 c1 p1 p1.length rfl j _ x1 ((HI1.out.1.below hb23.out).mono hb23.out.size) HI1.out.2 hj64 HW F3.out).mono ?_
  rintro e v5 ⟨g1, gc1, rfl, hN1, hB⟩
  have z24 : v4.heap.size ≤ v5.heap.size := hB.size
  have hb25 : Hid (Below w.heap.size w v5) := hb23.out.trans (hB.mono hb23.out.size)
  have L26 : Hid (MidC (v4.heap.size) (v5.heap.size) v5 (g1) ([]) (gc1)) := hN1.midc
  clear hB hb23 hN1
  go_wp2_with fail
  go_ret
  exact ⟨rfl, hb25.out⟩
set_option maxRecDepth 100000 in
set_option maxHeartbeats 8000000 in
theorem times_ok (HW : CPw) (HA : CPa) (HY : CPy) (a1 : Option Addr) (c1 : Nat) (p1 : List Int) (x1 : p1.length ≤ 9223372036854775807) (T1 : ∀ j, In64 (nth p1 j)) (j k : Int) (hj64 : In64 j) (hk64 : In64 k) (w : World) (w1 : IsInts w.heap.size w a1 p1) (F1 : Hid (-1099511627776 ≤ j ∧ j ≤ 1099511627776)) (F2 : Hid (-1099511627776 ≤ k ∧ k ≤ 1099511627776)) (F3 : Hid (orE p1 = 0)) :
    Calls Try.prog 3 #[.slice a1 p1.length c1, .int .i64 j, .int .i64 k] w fun e w' => e = .returned (.bool true) ∧ Below w.heap.size w w' := by
  have HI1 : Hid (IsInts w.heap.size w a1 p1 ∧ ∀ j, In64 (nth p1 j)) := ⟨w1, T1⟩
  clear w1 T1
  obtain ⟨X, hX⟩ : ∃ x, x = pwI p1 j := ⟨_, rfl⟩
  obtain ⟨Y, hY⟩ : ∃ x, x = pwI p1 k := ⟨_, rfl⟩
  obtain ⟨V, hV⟩ : ∃ x, x = pwI p1 (j + k) := ⟨_, rfl⟩
  obtain ⟨D, hD⟩ : ∃ x, x = idn p1.length := ⟨_, rfl⟩
  obtain ⟨l1, o1⟩ := orE_zero.1 F3.out
  have oX : IsOrd X := by rw [hX]; exact pwI_ord o1 j
  have oY : IsOrd Y := by rw [hY]; exact pwI_ord o1 k
  have lX : X.length = p1.length := by rw [hX]; exact pwI_length j
  have lY : Y.length = p1.length := by rw [hY]; exact pwI_length k
  have lV : V.length = p1.length := by rw [hV]; exact pwI_length _
  have lD : D.length = p1.length := by rw [hD]; exact idn_length _
  have HX : Hid (orE p1 = 0 ∧ pwI p1 j = X) := ⟨F3.out, hX.symm⟩
  have HYY : Hid (orE p1 = 0 ∧ pwI p1 k = Y) := ⟨F3.out, hY.symm⟩
  have HVV : Hid (orE p1 = 0 ∧ pwI p1 (j + k) = V) := ⟨F3.out, hV.symm⟩
  have HU : Hid (afE X Y = 0 ∧ aft X Y = V) := ⟨afE_of oX oY (by omega) (by omega), by rw [hX, hY, hV]; exact pwI_add o1 j k⟩
  have H1 : Hid (orE p1 = 0 ∧ pwI p1 1 = p1) := ⟨F3.out, pwI_one⟩
  have H0 : Hid (orE p1 = 0 ∧ pwI p1 0 = D) := ⟨F3.out, by rw [hD]; exact pwI_zero⟩
  have HDD : Hid (D = idn p1.length) := hD
  have HO1 : Hid (IsOrd p1) := o1
  have HT : Hid ((∀ j, In64 (nth X j)) ∧ ∀ j, In64 (nth Y j)) := ⟨ord_64 oX (by omega), ord_64 oY (by omega)⟩
  have HLL : Hid (X.length ≤ 4096 ∧ Y.length ≤ 4096 ∧ V.length ≤ 4096 ∧ D.length ≤ 4096 ∧ p1.length ≤ 4096) := ⟨by omega, by omega, by omega, by omega, l1⟩
  have hj1 := F1.out.1
  have hj2 := F1.out.2
  have hk1 := F2.out.1
  have hk2 := F2.out.2
  clear hX hY hV hD l1 o1 oX oY lX lY lV lD
  have n1 := lit_mid w 3 [1, 2, 0] 3 rfl
  simp only [List.map_cons, List.map_nil] at n1
  go_enter Try.func3, Try.ntmps3
  go_wp2_with fail
  obtain ⟨wo2, hwo2⟩ : ∃ wo2, wo2 = (w.alloc (.cells #[.int .i64 1, .int .i64 2, .int .i64 0] 3)) := ⟨_, rfl⟩
  rw [← hwo2]
  have z3 : w.heap.size + 1 ≤ wo2.heap.size := by rw [hwo2]; simp only [World.size_alloc]; omega
  have L4 : Hid (MidC (w.heap.size) (w.heap.size + 1) wo2 (some ⟨w.heap.size, 0, none⟩) ([1, 2, 0]) (3)) := by rw [hwo2]; exact n1
  have hb5 : Hid (Below w.heap.size w wo2) := by rw [hwo2]; exact ((Below.refl w.heap.size w).alloc (by omega) (.cells #[.int .i64 1, .int .i64 2, .int .i64 0] 3))
  have zwo2 : w.heap.size ≤ wo2.heap.size := hb5.out.size
  clear hwo2 n1
  refine (pw_ok (some ⟨w.heap.size, 0, none⟩) 3 [1, 2, 0] 3 rfl 2 _ (by decide) (L4.out.is (by omega)).1 (lit_all (by decide)) (by unfold In64; decide) [2, 0, 1] HW (by decide)).mono ?_
  rintro e v1 ⟨g0, gc0, rfl, hN0, hB⟩
  have z6 : wo2.heap.size ≤ v1.heap.size := hB.size
  have L7 : Hid (MidC (w.heap.size) (w.heap.size + 1) v1 (some ⟨w.heap.size, 0, none⟩) ([1, 2, 0]) (3)) := L4.out.go (by omega) hB
  have hb8 : Hid (Below w.heap.size w v1) := hb5.out.trans (hB.mono hb5.out.size)
  have L9 : Hid (MidC (wo2.heap.size) (v1.heap.size) v1 (g0) ([2, 0, 1]) (gc0)) := hN0.midc
  clear hB hb5 L4 hN0
  clear L7
  have n10 := lit_mid v1 3 [2, 0, 1] 3 rfl
  simp only [List.map_cons, List.map_nil] at n10
  go_wp2_with fail
  obtain ⟨wo11, hwo11⟩ : ∃ wo11, wo11 = (v1.alloc (.cells #[.int .i64 2, .int .i64 0, .int .i64 1] 3)) := ⟨_, rfl⟩
  rw [← hwo11]
  have z12 : v1.heap.size + 1 ≤ wo11.heap.size := by rw [hwo11]; simp only [World.size_alloc]; omega
  have L13 : Hid (MidC (wo2.heap.size) (v1.heap.size) wo11 (g0) ([2, 0, 1]) (gc0)) := by rw [hwo11]; exact (L9.out.al (by omega) (.cells #[.int .i64 2, .int .i64 0, .int .i64 1] 3))
  have L14 : Hid (MidC (v1.heap.size) (v1.heap.size + 1) wo11 (some ⟨v1.heap.size, 0, none⟩) ([2, 0, 1]) (3)) := by rw [hwo11]; exact n10
  have hb15 : Hid (Below w.heap.size w wo11) := by rw [hwo11]; exact (hb8.out.alloc (by omega) (.cells #[.int .i64 2, .int .i64 0, .int .i64 1] 3))
  have zwo11 : w.heap.size ≤ wo11.heap.size := hb15.out.size
  clear hwo11 n10 hb8 L9
  refine (ints_any g0 gc0 [2, 0, 1] (some ⟨v1.heap.size, 0, none⟩) 3 [2, 0, 1] (by simp) _ _ (L13.out.is (by omega)).1 (L14.out.is (by omega)).1).mono ?_
  rintro e v2 ⟨rfl, hB⟩
  have z16 : wo11.heap.size ≤ v2.heap.size := hB.size
  have L17 : Hid (MidC (wo2.heap.size) (v1.heap.size) v2 (g0) ([2, 0, 1]) (gc0)) := L13.out.go (by omega) hB
  have L18 : Hid (MidC (v1.heap.size) (v1.heap.size + 1) v2 (some ⟨v1.heap.size, 0, none⟩) ([2, 0, 1]) (3)) := L14.out.go (by omega) hB
  have hb19 : Hid (Below w.heap.size w v2) := hb15.out.trans (hB.mono hb15.out.size)
  clear hB hb15 L13 L14
  rw [eqB_true rfl]
  clear L17 L18
  go_wp2_with fail
  refine (within_ok j _ _ F1.out _).mono ?_
  rintro e v3 ⟨rfl, hB⟩
  have z20 : v2.heap.size ≤ v3.heap.size := hB.size
  have hb21 : Hid (Below w.heap.size w v3) := hb19.out.trans (hB.mono hb19.out.size)
  clear hB hb19
  go_wp2_with fail
  refine (within_ok k _ _ F2.out _).mono ?_
  rintro e v4 ⟨rfl, hB⟩
  have z22 : v3.heap.size ≤ v4.heap.size := hB.size
  have hb23 : Hid (Below w.heap.size w v4) := hb21.out.trans (hB.mono hb21.out.size)
  clear hB hb21
  go_wp2_with fail
  refine (pw_ok a1 c1 p1 p1.length rfl j _ x1 ((HI1.out.1.below hb23.out).mono hb23.out.size) HI1.out.2 hj64 X HW HX.out).mono ?_
  rintro e v5 ⟨g1, gc1, rfl, hN1, hB⟩
  have z24 : v4.heap.size ≤ v5.heap.size := hB.size
  have hb25 : Hid (Below w.heap.size w v5) := hb23.out.trans (hB.mono hb23.out.size)
  have L26 : Hid (MidC (v4.heap.size) (v5.heap.size) v5 (g1) (X) (gc1)) := hN1.midc
  clear hB hb23 hN1
  go_wp2_with fail
  refine (pw_ok a1 c1 p1 p1.length rfl k _ x1 ((HI1.out.1.below hb25.out).mono hb25.out.size) HI1.out.2 hk64 Y HW HYY.out).mono ?_
  rintro e v6 ⟨g2, gc2, rfl, hN2, hB⟩
  have z27 : v5.heap.size ≤ v6.heap.size := hB.size
  have L28 : Hid (MidC (v4.heap.size) (v5.heap.size) v6 (g1) (X) (gc1)) := L26.out.go (by omega) hB
  have hb29 : Hid (Below w.heap.size w v6) := hb25.out.trans (hB.mono hb25.out.size)
  have L30 : Hid (MidC (v5.heap.size) (v6.heap.size) v6 (g2) (Y) (gc2)) := hN2.midc
  clear hB hb25 L26 hN2
  go_wp2_with fail
  refine (af_ok g1 gc1 X X.length rfl g2 gc2 Y Y.length rfl _ (by have := HLL.out; omega) (by have := HLL.out; omega) (L28.out.is (by omega)).1 (L30.out.is (by omega)).1 HT.out.1 HT.out.2 V HA HU.out).mono ?_
  rintro e v7 ⟨g3, gc3, rfl, hN3, hB⟩
  have z31 : v6.heap.size ≤ v7.heap.size := hB.size
  have L32 : Hid (MidC (v4.heap.size) (v5.heap.size) v7 (g1) (X) (gc1)) := L28.out.go (by omega) hB
  have L33 : Hid (MidC (v5.heap.size) (v6.heap.size) v7 (g2) (Y) (gc2)) := L30.out.go (by omega) hB
  have hb34 : Hid (Below w.heap.size w v7) := hb29.out.trans (hB.mono hb29.out.size)
  have L35 : Hid (MidC (v6.heap.size) (v7.heap.size) v7 (g3) (V) (gc3)) := hN3.midc
  clear hB hb29 L28 L30 hN3
  clear L32 L33
  go_wp2_with fail
  refine (pw_ok a1 c1 p1 p1.length rfl (j + k) _ x1 ((HI1.out.1.below hb34.out).mono hb34.out.size) HI1.out.2 (by unfold In64; omega) V HW HVV.out).mono ?_
  rintro e v8 ⟨g4, gc4, rfl, hN4, hB⟩
  have z36 : v7.heap.size ≤ v8.heap.size := hB.size
  have L37 : Hid (MidC (v6.heap.size) (v7.heap.size) v8 (g3) (V) (gc3)) := L35.out.go (by omega) hB
  have hb38 : Hid (Below w.heap.size w v8) := hb34.out.trans (hB.mono hb34.out.size)
  have L39 : Hid (MidC (v7.heap.size) (v8.heap.size) v8 (g4) (V) (gc4)) := hN4.midc
  clear hB hb34 L35 hN4
  go_wp2_with fail
  refine (list_eq g3 gc3 V V.length rfl g4 gc4 V.length rfl _ (by have := HLL.out; omega) (L37.out.is (by omega)).1 (L39.out.is (by omega)).1).mono ?_
  rintro e v9 ⟨rfl, hB⟩
  have z40 : v8.heap.size ≤ v9.heap.size := hB.size
  have L41 : Hid (MidC (v6.heap.size) (v7.heap.size) v9 (g3) (V) (gc3)) := L37.out.go (by omega) hB
  have L42 : Hid (MidC (v7.heap.size) (v8.heap.size) v9 (g4) (V) (gc4)) := L39.out.go (by omega) hB
  have hb43 : Hid (Below w.heap.size w v9) := hb38.out.trans (hB.mono hb38.out.size)
  clear hB hb38 L37 L39
  clear L41 L42
  go_wp2_with fail
  refine (pw_ok a1 c1 p1 p1.length rfl 1 _ x1 ((HI1.out.1.below hb43.out).mono hb43.out.size) HI1.out.2 (by unfold In64; decide) p1 HW H1.out).mono ?_
  rintro e v10 ⟨g5, gc5, rfl, hN5, hB⟩
  have z44 : v9.heap.size ≤ v10.heap.size := hB.size
  have hb45 : Hid (Below w.heap.size w v10) := hb43.out.trans (hB.mono hb43.out.size)
  have L46 : Hid (MidC (v9.heap.size) (v10.heap.size) v10 (g5) (p1) (gc5)) := hN5.midc
  clear hB hb43 hN5
  go_wp2_with fail
  refine (list_eq g5 gc5 p1 p1.length rfl a1 c1 p1.length rfl _ x1 (L46.out.is (by omega)).1 ((HI1.out.1.below hb45.out).mono hb45.out.size)).mono ?_
  rintro e v11 ⟨rfl, hB⟩
  have z47 : v10.heap.size ≤ v11.heap.size := hB.size
  have L48 : Hid (MidC (v9.heap.size) (v10.heap.size) v11 (g5) (p1) (gc5)) := L46.out.go (by omega) hB
  have hb49 : Hid (Below w.heap.size w v11) := hb45.out.trans (hB.mono hb45.out.size)
  clear hB hb45 L46
  clear L48
  go_wp2_with fail
  refine (cy_ok a1 c1 p1 p1.length rfl _ x1 ((HI1.out.1.below hb49.out).mono hb49.out.size) HI1.out.2 HY F3.out).mono ?_
  rintro e v12 ⟨gy, gyc, rs, rfl, hrs, hR, hB⟩
  have z50 : v11.heap.size ≤ v12.heap.size := hB.size
  have hb51 : Hid (Below w.heap.size w v12) := hb49.out.trans (hB.mono hb49.out.size)
  clear hB hb49
  have HR : Hid (rws rs = rnds p1 ∧ IsRs v12.heap.size v12 gy rs) := ⟨hrs.out, hR⟩
  clear hrs hR hj1 hj2 hk1 hk2
  by_cases hp20 : (20 : Int) < (p1.length : Int)
  · go_wp2_with fail
    go_ret
    exact ⟨rfl, hb51.out⟩
  by_cases hc20 : (20 : Int) < (rs.length : Int)
  · go_wp2_with fail
    go_ret
    exact ⟨rfl, hb51.out⟩
  have HP : Hid (p1.length ≤ 20) := by show _ ≤ _; omega
  go_wp2_with fail
  clear hp20
  go_loopw [24, 25] (fun l i wr => ∃ q : Nat, q ≤ rs.length ∧ i = .int .i64 q ∧ l = .int .i64 (pnk p1 q : Nat) ∧ wr = v12) (fun _ i _ => rs.length - (intOf i).toNat)
  case atStart => exact ⟨0, Nat.zero_le _, rfl, rfl, rfl⟩
  case round =>
    obtain ⟨q, hq, rfl, rfl, hv⟩ := hrel
    obtain rfl := hv.symm
    by_cases hlt : q < rs.length
    · have hs := rws_step HO1.out HP.out HR.out.1 hlt
      have hle := pnk_le HO1.out HP.out (q + 1)
      obtain ⟨b, off, rfl, hbb, hcell⟩ := HR.out.2.at hlt
      have ck := hcell q hlt
      clear hcell hv
      unfold RwV.v at ck
      generalize rwz rs q = R at *
      obtain ⟨⟨ra, rc⟩, rl⟩ := R
      dsimp only at ck hs
      obtain ⟨hs1, hs2, hs3⟩ := hs
      have HQ : Hid (pnk p1 (q + 1) = pnk p1 q * rl.length) := hs3
      have hw : wrap64 ((pnk p1 q : Int) * (rl.length : Int)) = (pnk p1 (q + 1) : Nat) := by rw [hs3] at hle ⊢; rw [← Int.natCast_mul]; exact w_small (by omega) (by omega)
      clear hs3
      generalize hQ2 : pnk p1 (q + 1) = Q2 at *
      have HQ2 : Hid (pnk p1 (q + 1) = Q2) := hQ2
      clear hQ2
      generalize pnk p1 q = Q1 at *
      go_wp2_with fail
      exact ⟨⟨q + 1, by omega, by go_num, by rw [HQ2.out, hw], by first | rfl | trivial⟩, by simp [intOf]; omega⟩
    · obtain rfl : q = rs.length := by omega
      obtain ⟨N, hN⟩ : ∃ N, N = pnk p1 rs.length := ⟨_, rfl⟩
      have HN : Hid (orE p1 = 0 ∧ pwI p1 (N : Nat) = D) := ⟨F3.out, by rw [hN, rws_len HR.out.1, pnk_all HO1.out, HDD.out]⟩
      have hN2 : N ≤ 1048576 := by rw [hN]; exact pnk_le HO1.out HP.out _
      rw [← hN]
      clear hN hv
      go_wp2_with fail
      refine (pw_ok a1 c1 p1 p1.length rfl (N : Nat) _ x1 ((HI1.out.1.below hb51.out).mono hb51.out.size) HI1.out.2 (by unfold In64; omega) D HW HN.out).mono ?_
      rintro e v13 ⟨g6, gc6, rfl, hN6, hB⟩
      have z52 : v12.heap.size ≤ v13.heap.size := hB.size
      have hb53 : Hid (Below w.heap.size w v13) := hb51.out.trans (hB.mono hb51.out.size)
      have L54 : Hid (MidC (v12.heap.size) (v13.heap.size) v13 (g6) (D) (gc6)) := hN6.midc
      clear hB hb51 hN6
      go_wp2_with fail
      refine (pw_ok a1 c1 p1 p1.length rfl 0 _ x1 ((HI1.out.1.below hb53.out).mono hb53.out.size) HI1.out.2 (by unfold In64; decide) D HW H0.out).mono ?_
      rintro e v14 ⟨g7, gc7, rfl, hN7, hB⟩
      have z55 : v13.heap.size ≤ v14.heap.size := hB.size
      have L56 : Hid (MidC (v12.heap.size) (v13.heap.size) v14 (g6) (D) (gc6)) := L54.out.go (by omega) hB
      have hb57 : Hid (Below w.heap.size w v14) := hb53.out.trans (hB.mono hb53.out.size)
      have L58 : Hid (MidC (v13.heap.size) (v14.heap.size) v14 (g7) (D) (gc7)) := hN7.midc
      clear hB hb53 L54 hN7
      go_wp2_with fail
      refine (list_eq g6 gc6 D D.length rfl g7 gc7 D.length rfl _ (by have := HLL.out; omega) (L56.out.is (by omega)).1 (L58.out.is (by omega)).1).mono ?_
      rintro e v15 ⟨rfl, hB⟩
      have z59 : v14.heap.size ≤ v15.heap.size := hB.size
      have L60 : Hid (MidC (v12.heap.size) (v13.heap.size) v15 (g6) (D) (gc6)) := L56.out.go (by omega) hB
      have L61 : Hid (MidC (v13.heap.size) (v14.heap.size) v15 (g7) (D) (gc7)) := L58.out.go (by omega) hB
      have hb62 : Hid (Below w.heap.size w v15) := hb57.out.trans (hB.mono hb57.out.size)
      clear hB hb57 L56 L58
      clear L60 L61
      go_wp2_with fail
      go_ret
      exact ⟨rfl, hb62.out⟩
theorem ptimes_walk (HW : CPw) (HA : CPa) (HY : CPy) (a1 : Option Addr) (c1 : Nat) (p1 : List Int) (x1 : p1.length ≤ 9223372036854775807) (T1 : ∀ j, In64 (nth p1 j)) (j k : Int) (hj64 : In64 j) (hk64 : In64 k) (w : World) (w1 : IsInts w.heap.size w a1 p1) :
    Calls Try.prog 3 #[.slice a1 p1.length c1, .int .i64 j, .int .i64 k] w fun e w' => e = .returned (.bool true) ∧ Below w.heap.size w w' := by
  by_cases h1 : (-1099511627776 ≤ j ∧ j ≤ 1099511627776)
  · by_cases h2 : (-1099511627776 ≤ k ∧ k ≤ 1099511627776)
    · by_cases h3 : orE p1 = 0
      · exact times_ok HW HA HY a1 c1 p1 x1 T1 j k hj64 hk64 w w1 h1 h2 h3
      · exact times_no3 HW HA HY a1 c1 p1 x1 T1 j k hj64 hk64 w w1 h1 h2 h3
    · exact times_no2 HW HA HY a1 c1 p1 x1 T1 j k hj64 hk64 w w1 h1 h2
  · exact times_no1 HW HA HY a1 c1 p1 x1 T1 j k hj64 hk64 w w1 h1
end Go.Proofs.Ytcblakcaoecgpab
