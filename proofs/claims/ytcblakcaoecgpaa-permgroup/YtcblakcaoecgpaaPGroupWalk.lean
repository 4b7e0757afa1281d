/-
  The walk of the statement PermGroup, given what the program tells.
-/
import Derived.Test.YtcblakcaoecgpaaPrmv
namespace Go.Proofs.Ytcblakcaoecgpaa
open Go.RowKit
set_option linter.unusedVariables false

theorem lit_all {xs : List Int} (h : xs.all (fun x => decide (-9223372036854775808 ≤ x ∧ x ≤ 9223372036854775807)) = true) : ∀ j, In64 (nth xs j) := fun j => by
  by_cases hj : j < xs.length
  · have : nth xs j ∈ xs := by simp [nth, hj]
    exact of_decide_eq_true (p := -9223372036854775808 ≤ nth xs j ∧ nth xs j ≤ 9223372036854775807) (List.all_eq_true.1 h _ this)
  · have : nth xs j = 0 := by simp [nth, List.getElem?_eq_none (Nat.le_of_not_lt hj)]
    rw [this]; unfold In64; decide
set_option maxRecDepth 100000 in
set_option maxHeartbeats 8000000 in
theorem group_no1 (HA : CPa) (HV : CPi) (a1 : Option Addr) (c1 : Nat) (p1 : List Int) (x1 : p1.length ≤ 9223372036854775807) (T1 : ∀ j, In64 (nth p1 j)) (a2 : Option Addr) (c2 : Nat) (p2 : List Int) (x2 : p2.length ≤ 9223372036854775807) (T2 : ∀ j, In64 (nth p2 j)) (a3 : Option Addr) (c3 : Nat) (p3 : List Int) (x3 : p3.length ≤ 9223372036854775807) (T3 : ∀ j, In64 (nth p3 j)) (w : World) (w1 : IsInts w.heap.size w a1 p1) (w2 : IsInts w.heap.size w a2 p2) (w3 : IsInts w.heap.size w a3 p3) (F1 : Hid (afE p1 p2 ≠ 0)) :
    Calls Try.prog 3 #[.slice a1 p1.length c1, .slice a2 p2.length c2, .slice a3 p3.length c3] w fun e w' => e = .returned (.bool true) ∧ Below w.heap.size w w' := by
  have HI1 : Hid (IsInts w.heap.size w a1 p1 ∧ ∀ j, In64 (nth p1 j)) := ⟨w1, T1⟩
  have HI2 : Hid (IsInts w.heap.size w a2 p2 ∧ ∀ j, In64 (nth p2 j)) := ⟨w2, T2⟩
  have HI3 : Hid (IsInts w.heap.size w a3 p3 ∧ ∀ j, In64 (nth p3 j)) := ⟨w3, T3⟩
  clear w1 T1 w2 T2 w3 T3
  obtain ⟨L2, hL2⟩ : ∃ L, L = onL (afE [] p3) (aft [] p3) := ⟨_, rfl⟩
  obtain ⟨E2, hE2⟩ : ∃ E, E = afE [] p3 := ⟨_, rfl⟩
  have HN : Hid (onL (afE [] p3) (aft [] p3) = L2 ∧ afE [] p3 = E2) := ⟨hL2.symm, hE2.symm⟩
  clear hL2 hE2
  have n1 := lit_mid w 3 [1, 2, 0] 3 rfl
  simp only [List.map_cons, List.map_nil] at n1
  have n2 := lit_mid (w.alloc (.cells #[.int .i64 1, .int .i64 2, .int .i64 0] 3)) 3 [1, 0, 2] 3 rfl
  simp only [World.size_alloc, List.map_cons, List.map_nil] at n2
  go_enter Try.func3, Try.ntmps3
  go_wp2_with fail
  obtain ⟨wo3, hwo3⟩ : ∃ wo3, wo3 = ((w.alloc (.cells #[.int .i64 1, .int .i64 2, .int .i64 0] 3)).alloc (.cells #[.int .i64 1, .int .i64 0, .int .i64 2] 3)) := ⟨_, rfl⟩
  rw [← hwo3]
  have z4 : w.heap.size + 1 + 1 ≤ wo3.heap.size := by rw [hwo3]; simp only [World.size_alloc]; omega
  have L5 : Hid (MidC (w.heap.size) (w.heap.size + 1) wo3 (some ⟨w.heap.size, 0, none⟩) ([1, 2, 0]) (3)) := by rw [hwo3]; exact (n1.al (by simp only [World.size_alloc]; omega) (.cells #[.int .i64 1, .int .i64 0, .int .i64 2] 3))
  have L6 : Hid (MidC (w.heap.size + 1) (w.heap.size + 1 + 1) wo3 (some ⟨w.heap.size + 1, 0, none⟩) ([1, 0, 2]) (3)) := by rw [hwo3]; exact n2
  have hb7 : Hid (Below w.heap.size w wo3) := by rw [hwo3]; exact (((Below.refl w.heap.size w).alloc (by omega) (.cells #[.int .i64 1, .int .i64 2, .int .i64 0] 3)).alloc (by simp only [World.size_alloc]; omega) (.cells #[.int .i64 1, .int .i64 0, .int .i64 2] 3))
  have zwo3 : w.heap.size ≤ wo3.heap.size := hb7.out.size
  clear hwo3 n1 n2
  refine (af_ok (some ⟨w.heap.size, 0, none⟩) 3 [1, 2, 0] 3 rfl (some ⟨w.heap.size + 1, 0, none⟩) 3 [1, 0, 2] 3 rfl _ (by decide) (by decide) (L5.out.is (by omega)).1 (L6.out.is (by omega)).1 (lit_all (by decide)) (lit_all (by decide)) [2, 1, 0] HA (by decide)).mono ?_
  rintro e v1 ⟨g0, gc0, rfl, hN0, hB⟩
  have z8 : wo3.heap.size ≤ v1.heap.size := hB.size
  have L9 : Hid (MidC (w.heap.size) (w.heap.size + 1) v1 (some ⟨w.heap.size, 0, none⟩) ([1, 2, 0]) (3)) := L5.out.go (by omega) hB
  have L10 : Hid (MidC (w.heap.size + 1) (w.heap.size + 1 + 1) v1 (some ⟨w.heap.size + 1, 0, none⟩) ([1, 0, 2]) (3)) := L6.out.go (by omega) hB
  have hb11 : Hid (Below w.heap.size w v1) := hb7.out.trans (hB.mono hb7.out.size)
  have L12 : Hid (MidC (wo3.heap.size) (v1.heap.size) v1 (g0) ([2, 1, 0]) (gc0)) := hN0.midc
  clear hB hb7 L5 L6 hN0
  clear L9 L10
  have n13 := lit_mid v1 3 [2, 1, 0] 3 rfl
  simp only [List.map_cons, List.map_nil] at n13
  go_wp2_with fail
  obtain ⟨wo14, hwo14⟩ : ∃ wo14, wo14 = (v1.alloc (.cells #[.int .i64 2, .int .i64 1, .int .i64 0] 3)) := ⟨_, rfl⟩
  rw [← hwo14]
  have z15 : v1.heap.size + 1 ≤ wo14.heap.size := by rw [hwo14]; simp only [World.size_alloc]; omega
  have L16 : Hid (MidC (wo3.heap.size) (v1.heap.size) wo14 (g0) ([2, 1, 0]) (gc0)) := by rw [hwo14]; exact (L12.out.al (by omega) (.cells #[.int .i64 2, .int .i64 1, .int .i64 0] 3))
  have L17 : Hid (MidC (v1.heap.size) (v1.heap.size + 1) wo14 (some ⟨v1.heap.size, 0, none⟩) ([2, 1, 0]) (3)) := by rw [hwo14]; exact n13
  have hb18 : Hid (Below w.heap.size w wo14) := by rw [hwo14]; exact (hb11.out.alloc (by omega) (.cells #[.int .i64 2, .int .i64 1, .int .i64 0] 3))
  have zwo14 : w.heap.size ≤ wo14.heap.size := hb18.out.size
  clear hwo14 n13 hb11 L12
  refine (ints_any g0 gc0 [2, 1, 0] (some ⟨v1.heap.size, 0, none⟩) 3 [2, 1, 0] (by simp) _ _ (L16.out.is (by omega)).1 (L17.out.is (by omega)).1).mono ?_
  rintro e v2 ⟨rfl, hB⟩
  have z19 : wo14.heap.size ≤ v2.heap.size := hB.size
  have L20 : Hid (MidC (wo3.heap.size) (v1.heap.size) v2 (g0) ([2, 1, 0]) (gc0)) := L16.out.go (by omega) hB
  have L21 : Hid (MidC (v1.heap.size) (v1.heap.size + 1) v2 (some ⟨v1.heap.size, 0, none⟩) ([2, 1, 0]) (3)) := L17.out.go (by omega) hB
  have hb22 : Hid (Below w.heap.size w v2) := hb18.out.trans (hB.mono hb18.out.size)
  clear hB hb18 L16 L17
  rw [eqB_true rfl]
  clear L20 L21
  go_wp2_with fail
  refine (af_no a1 c1 p1 p1.length rfl a2 c2 p2 p2.length rfl _ x1 x2 ((HI1.out.1.below hb22.out).mono hb22.out.size) ((HI2.out.1.below hb22.out).mono hb22.out.size) HI1.out.2 HI2.out.2 HA F1.out).mono ?_
  rintro e v3 ⟨g1, gc1, rfl, hN1, hB⟩
  have z23 : v2.heap.size ≤ v3.heap.size := hB.size
  have hb24 : Hid (Below w.heap.size w v3) := hb22.out.trans (hB.mono hb22.out.size)
  have L25 : Hid (MidC (v2.heap.size) (v3.heap.size) v3 (g1) ([]) (gc1)) := hN1.midc
  clear hB hb22 hN1
  go_wp2_with fail
  have h2 := af_any g1 gc1 [] 0 rfl a3 c3 p3 p3.length rfl _ (by decide) x3 (L25.out.is (by omega)).1 ((HI3.out.1.below hb24.out).mono hb24.out.size) (lit_all (by decide)) HI3.out.2 HA
  rw [HN.out.1, HN.out.2] at h2
  refine (h2).mono ?_
  rintro e v4 ⟨g2, gc2, rfl, hN2, hB⟩
  have z26 : v3.heap.size ≤ v4.heap.size := hB.size
  have L27 : Hid (MidC (v2.heap.size) (v3.heap.size) v4 (g1) ([]) (gc1)) := L25.out.go (by omega) hB
  have hb28 : Hid (Below w.heap.size w v4) := hb24.out.trans (hB.mono hb24.out.size)
  have L29 : Hid (MidC (v3.heap.size) (v4.heap.size) v4 (g2) (L2) (gc2)) := hN2.midc
  clear hB hb24 L25 hN2
  clear h2
  go_wp2_with fail
  go_ret
  exact ⟨rfl, hb28.out⟩
set_option maxRecDepth 100000 in
set_option maxHeartbeats 8000000 in
theorem group_no2 (HA : CPa) (HV : CPi) (a1 : Option Addr) (c1 : Nat) (p1 : List Int) (x1 : p1.length ≤ 9223372036854775807) (T1 : ∀ j, In64 (nth p1 j)) (a2 : Option Addr) (c2 : Nat) (p2 : List Int) (x2 : p2.length ≤ 9223372036854775807) (T2 : ∀ j, In64 (nth p2 j)) (a3 : Option Addr) (c3 : Nat) (p3 : List Int) (x3 : p3.length ≤ 9223372036854775807) (T3 : ∀ j, In64 (nth p3 j)) (w : World) (w1 : IsInts w.heap.size w a1 p1) (w2 : IsInts w.heap.size w a2 p2) (w3 : IsInts w.heap.size w a3 p3) (F1 : Hid (afE p1 p2 = 0)) (F2 : Hid (afE (aft p1 p2) p3 ≠ 0)) :
    Calls Try.prog 3 #[.slice a1 p1.length c1, .slice a2 p2.length c2, .slice a3 p3.length c3] w fun e w' => e = .returned (.bool true) ∧ Below w.heap.size w w' := by
  have HI1 : Hid (IsInts w.heap.size w a1 p1 ∧ ∀ j, In64 (nth p1 j)) := ⟨w1, T1⟩
  have HI2 : Hid (IsInts w.heap.size w a2 p2 ∧ ∀ j, In64 (nth p2 j)) := ⟨w2, T2⟩
  have HI3 : Hid (IsInts w.heap.size w a3 p3 ∧ ∀ j, In64 (nth p3 j)) := ⟨w3, T3⟩
  clear w1 T1 w2 T2 w3 T3
  obtain ⟨X, hX⟩ : ∃ X, X = aft p1 p2 := ⟨_, rfl⟩
  obtain ⟨e1, e2, e3⟩ := afE_zero.1 F1.out
  obtain ⟨l1, o1⟩ := orE_zero.1 e1
  obtain ⟨l2, o2⟩ := orE_zero.1 e2
  have oX : IsOrd X := by rw [hX]; exact aft_ord o1 o2 e3
  have lX : X.length = p2.length := by rw [hX]; exact aft_length
  have HX : Hid (afE p1 p2 = 0 ∧ aft p1 p2 = X) := ⟨F1.out, hX.symm⟩
  have HTX : Hid (∀ j, In64 (nth X j)) := ord_64 oX (by omega)
  have HF2 : Hid (afE X p3 ≠ 0) := by rw [hX]; exact F2.out
  have HL : Hid (X.length ≤ 4096) := by show _ ≤ _; omega
  clear hX e1 e2 e3 l1 l2 o1 o2 oX lX
  have n1 := lit_mid w 3 [1, 2, 0] 3 rfl
  simp only [List.map_cons, List.map_nil] at n1
  have n2 := lit_mid (w.alloc (.cells #[.int .i64 1, .int .i64 2, .int .i64 0] 3)) 3 [1, 0, 2] 3 rfl
  simp only [World.size_alloc, List.map_cons, List.map_nil] at n2
  go_enter Try.func3, Try.ntmps3
  go_wp2_with fail
  obtain ⟨wo3, hwo3⟩ : ∃ wo3, wo3 = ((w.alloc (.cells #[.int .i64 1, .int .i64 2, .int .i64 0] 3)).alloc (.cells #[.int .i64 1, .int .i64 0, .int .i64 2] 3)) := ⟨_, rfl⟩
  rw [← hwo3]
  have z4 : w.heap.size + 1 + 1 ≤ wo3.heap.size := by rw [hwo3]; simp only [World.size_alloc]; omega
  have L5 : Hid (MidC (w.heap.size) (w.heap.size + 1) wo3 (some ⟨w.heap.size, 0, none⟩) ([1, 2, 0]) (3)) := by rw [hwo3]; exact (n1.al (by simp only [World.size_alloc]; omega) (.cells #[.int .i64 1, .int .i64 0, .int .i64 2] 3))
  have L6 : Hid (MidC (w.heap.size + 1) (w.heap.size + 1 + 1) wo3 (some ⟨w.heap.size + 1, 0, none⟩) ([1, 0, 2]) (3)) := by rw [hwo3]; exact n2
  have hb7 : Hid (Below w.heap.size w wo3) := by rw [hwo3]; exact (((Below.refl w.heap.size w).alloc (by omega) (.cells #[.int .i64 1, .int .i64 2, .int .i64 0] 3)).alloc (by simp only [World.size_alloc]; omega) (.cells #[.int .i64 1, .int .i64 0, .int .i64 2] 3))
  have zwo3 : w.heap.size ≤ wo3.heap.size := hb7.out.size
  clear hwo3 n1 n2
  refine (af_ok (some ⟨w.heap.size, 0, none⟩) 3 [1, 2, 0] 3 rfl (some ⟨w.heap.size + 1, 0, none⟩) 3 [1, 0, 2] 3 rfl _ (by decide) (by decide) (L5.out.is (by omega)).1 (L6.out.is (by omega)).1 (lit_all (by decide)) (lit_all (by decide)) [2, 1, 0] HA (by decide)).mono ?_
  rintro e v1 ⟨g0, gc0, rfl, hN0, hB⟩
  have z8 : wo3.heap.size ≤ v1.heap.size := hB.size
  have L9 : Hid (MidC (w.heap.size) (w.heap.size + 1) v1 (some ⟨w.heap.size, 0, none⟩) ([1, 2, 0]) (3)) := L5.out.go (by omega) hB
  have L10 : Hid (MidC (w.heap.size + 1) (w.heap.size + 1 + 1) v1 (some ⟨w.heap.size + 1, 0, none⟩) ([1, 0, 2]) (3)) := L6.out.go (by omega) hB
  have hb11 : Hid (Below w.heap.size w v1) := hb7.out.trans (hB.mono hb7.out.size)
  have L12 : Hid (MidC (wo3.heap.size) (v1.heap.size) v1 (g0) ([2, 1, 0]) (gc0)) := hN0.midc
  clear hB hb7 L5 L6 hN0
  clear L9 L10
  have n13 := lit_mid v1 3 [2, 1, 0] 3 rfl
  simp only [List.map_cons, List.map_nil] at n13
  go_wp2_with fail
  obtain ⟨wo14, hwo14⟩ : ∃ wo14, wo14 = (v1.alloc (.cells #[.int .i64 2, .int .i64 1, .int .i64 0] 3)) := ⟨_, rfl⟩
  rw [← hwo14]
  have z15 : v1.heap.size + 1 ≤ wo14.heap.size := by rw [hwo14]; simp only [World.size_alloc]; omega
  have L16 : Hid (MidC (wo3.heap.size) (v1.heap.size) wo14 (g0) ([2, 1, 0]) (gc0)) := by rw [hwo14]; exact (L12.out.al (by omega) (.cells #[.int .i64 2, .int .i64 1, .int .i64 0] 3))
  have L17 : Hid (MidC (v1.heap.size) (v1.heap.size + 1) wo14 (some ⟨v1.heap.size, 0, none⟩) ([2, 1, 0]) (3)) := by rw [hwo14]; exact n13
  have hb18 : Hid (Below w.heap.size w wo14) := by rw [hwo14]; exact (hb11.out.alloc (by omega) (.cells #[.int .i64 2, .int .i64 1, .int .i64 0] 3))
  have zwo14 : w.heap.size ≤ wo14.heap.size := hb18.out.size
  clear hwo14 n13 hb11 L12
  refine (ints_any g0 gc0 [2, 1, 0] (some ⟨v1.heap.size, 0, none⟩) 3 [2, 1, 0] (by simp) _ _ (L16.out.is (by omega)).1 (L17.out.is (by omega)).1).mono ?_
  rintro e v2 ⟨rfl, hB⟩
  have z19 : wo14.heap.size ≤ v2.heap.size := hB.size
  have L20 : Hid (MidC (wo3.heap.size) (v1.heap.size) v2 (g0) ([2, 1, 0]) (gc0)) := L16.out.go (by omega) hB
  have L21 : Hid (MidC (v1.heap.size) (v1.heap.size + 1) v2 (some ⟨v1.heap.size, 0, none⟩) ([2, 1, 0]) (3)) := L17.out.go (by omega) hB
  have hb22 : Hid (Below w.heap.size w v2) := hb18.out.trans (hB.mono hb18.out.size)
  clear hB hb18 L16 L17
  rw [eqB_true rfl]
  clear L20 L21
  go_wp2_with fail
  refine (af_ok a1 c1 p1 p1.length rfl a2 c2 p2 p2.length rfl _ x1 x2 ((HI1.out.1.below hb22.out).mono hb22.out.size) ((HI2.out.1.below hb22.out).mono hb22.out.size) HI1.out.2 HI2.out.2 X HA HX.out).mono ?_
  rintro e v3 ⟨g1, gc1, rfl, hN1, hB⟩
  have z23 : v2.heap.size ≤ v3.heap.size := hB.size
  have hb24 : Hid (Below w.heap.size w v3) := hb22.out.trans (hB.mono hb22.out.size)
  have L25 : Hid (MidC (v2.heap.size) (v3.heap.size) v3 (g1) (X) (gc1)) := hN1.midc
  clear hB hb22 hN1
  go_wp2_with fail
  refine (af_no g1 gc1 X X.length rfl a3 c3 p3 p3.length rfl _ (by have := HL.out; omega) x3 (L25.out.is (by omega)).1 ((HI3.out.1.below hb24.out).mono hb24.out.size) HTX.out HI3.out.2 HA HF2.out).mono ?_
  rintro e v4 ⟨g2, gc2, rfl, hN2, hB⟩
  have z26 : v3.heap.size ≤ v4.heap.size := hB.size
  have L27 : Hid (MidC (v2.heap.size) (v3.heap.size) v4 (g1) (X) (gc1)) := L25.out.go (by omega) hB
  have hb28 : Hid (Below w.heap.size w v4) := hb24.out.trans (hB.mono hb24.out.size)
  have L29 : Hid (MidC (v3.heap.size) (v4.heap.size) v4 (g2) ([]) (gc2)) := hN2.midc
  clear hB hb24 L25 hN2
  go_wp2_with fail
  go_ret
  exact ⟨rfl, hb28.out⟩
set_option maxRecDepth 100000 in
set_option maxHeartbeats 8000000 in
theorem group_ok (HA : CPa) (HV : CPi) (a1 : Option Addr) (c1 : Nat) (p1 : List Int) (x1 : p1.length ≤ 9223372036854775807) (T1 : ∀ j, In64 (nth p1 j)) (a2 : Option Addr) (c2 : Nat) (p2 : List Int) (x2 : p2.length ≤ 9223372036854775807) (T2 : ∀ j, In64 (nth p2 j)) (a3 : Option Addr) (c3 : Nat) (p3 : List Int) (x3 : p3.length ≤ 9223372036854775807) (T3 : ∀ j, In64 (nth p3 j)) (w : World) (w1 : IsInts w.heap.size w a1 p1) (w2 : IsInts w.heap.size w a2 p2) (w3 : IsInts w.heap.size w a3 p3) (F1 : Hid (afE p1 p2 = 0)) (F2 : Hid (afE (aft p1 p2) p3 = 0)) :
    Calls Try.prog 3 #[.slice a1 p1.length c1, .slice a2 p2.length c2, .slice a3 p3.length c3] w fun e w' => e = .returned (.bool true) ∧ Below w.heap.size w w' := by
  have HI1 : Hid (IsInts w.heap.size w a1 p1 ∧ ∀ j, In64 (nth p1 j)) := ⟨w1, T1⟩
  have HI2 : Hid (IsInts w.heap.size w a2 p2 ∧ ∀ j, In64 (nth p2 j)) := ⟨w2, T2⟩
  have HI3 : Hid (IsInts w.heap.size w a3 p3 ∧ ∀ j, In64 (nth p3 j)) := ⟨w3, T3⟩
  clear w1 T1 w2 T2 w3 T3
  obtain ⟨X, hX⟩ : ∃ X, X = aft p1 p2 := ⟨_, rfl⟩
  obtain ⟨e1, e2, e3⟩ := afE_zero.1 F1.out
  obtain ⟨l1, o1⟩ := orE_zero.1 e1
  obtain ⟨l2, o2⟩ := orE_zero.1 e2
  have oX : IsOrd X := by rw [hX]; exact aft_ord o1 o2 e3
  have lX : X.length = p2.length := by rw [hX]; exact aft_length
  have HX : Hid (afE p1 p2 = 0 ∧ aft p1 p2 = X) := ⟨F1.out, hX.symm⟩
  have HTX : Hid (∀ j, In64 (nth X j)) := ord_64 oX (by omega)
  have f2 : afE X p3 = 0 := by rw [hX]; exact F2.out
  obtain ⟨_, e4, e5⟩ := afE_zero.1 f2
  obtain ⟨l3, o3⟩ := orE_zero.1 e4
  obtain ⟨Y, hY⟩ : ∃ x, x = aft X p3 := ⟨_, rfl⟩
  obtain ⟨U, hU⟩ : ∃ x, x = aft p2 p3 := ⟨_, rfl⟩
  obtain ⟨J1, hJ1⟩ : ∃ x, x = tnd p1 := ⟨_, rfl⟩
  obtain ⟨J2, hJ2⟩ : ∃ x, x = tnd p2 := ⟨_, rfl⟩
  obtain ⟨J3, hJ3⟩ : ∃ x, x = tnd X := ⟨_, rfl⟩
  have oU : IsOrd U := by rw [hU]; exact aft_ord o2 o3 (by omega)
  have lU : U.length = p3.length := by rw [hU]; exact aft_length
  have lY : Y.length = p3.length := by rw [hY]; exact aft_length
  have oJ1 : IsOrd J1 := by rw [hJ1]; exact tnd_ord o1
  have lJ1 : J1.length = p1.length := by rw [hJ1]; exact tnd_length
  have oJ2 : IsOrd J2 := by rw [hJ2]; exact tnd_ord o2
  have lJ2 : J2.length = p2.length := by rw [hJ2]; exact tnd_length
  have lJ3 : J3.length = X.length := by rw [hJ3]; exact tnd_length
  have HY : Hid (afE X p3 = 0 ∧ aft X p3 = Y) := ⟨f2, hY.symm⟩
  have HU : Hid (afE p2 p3 = 0 ∧ aft p2 p3 = U) := ⟨afE_of o2 o3 l2 (by omega), hU.symm⟩
  have HVV : Hid (afE p1 U = 0 ∧ aft p1 U = Y) := ⟨afE_of o1 oU l1 (by omega), by rw [hY, hX, hU]; exact (aft_aft o3 (by omega)).symm⟩
  have HJ1 : Hid (orE p1 = 0 ∧ tnd p1 = J1) := ⟨orE_of o1 l1, hJ1.symm⟩
  have HZ : Hid (afE J1 X = 0 ∧ aft J1 X = p2) := ⟨afE_of oJ1 oX (by omega) (by omega), by rw [hJ1, hX]; exact tnd_undoes o1 o2 e3⟩
  have HJ2 : Hid (orE p2 = 0 ∧ tnd p2 = J2) := ⟨orE_of o2 l2, hJ2.symm⟩
  have HJ3 : Hid (orE X = 0 ∧ tnd X = J3) := ⟨orE_of oX (by omega), hJ3.symm⟩
  have HO : Hid (afE J2 J1 = 0 ∧ aft J2 J1 = J3) := ⟨afE_of oJ2 oJ1 (by omega) (by omega), by rw [hJ2, hJ1, hJ3, hX]; exact (tnd_both o1 o2 e3).symm⟩
  have HT : Hid ((∀ j, In64 (nth U j)) ∧ (∀ j, In64 (nth J1 j)) ∧ ∀ j, In64 (nth J2 j)) := ⟨ord_64 oU (by omega), ord_64 oJ1 (by omega), ord_64 oJ2 (by omega)⟩
  have HLL : Hid (X.length ≤ 4096 ∧ Y.length ≤ 4096 ∧ U.length ≤ 4096 ∧ J1.length ≤ 4096 ∧ J2.length ≤ 4096 ∧ J3.length ≤ 4096 ∧ p2.length ≤ 4096) := ⟨by omega, by omega, by omega, by omega, by omega, by omega, l2⟩
  clear hX e1 e2 e3 l1 l2 o1 o2 oX lX f2 e4 e5 l3 o3 hY hU hJ1 hJ2 hJ3 oU lU lY oJ1 lJ1 oJ2 lJ2 lJ3
  have n1 := lit_mid w 3 [1, 2, 0] 3 rfl
  simp only [List.map_cons, List.map_nil] at n1
  have n2 := lit_mid (w.alloc (.cells #[.int .i64 1, .int .i64 2, .int .i64 0] 3)) 3 [1, 0, 2] 3 rfl
  simp only [World.size_alloc, List.map_cons, List.map_nil] at n2
  go_enter Try.func3, Try.ntmps3
  go_wp2_with fail
  obtain ⟨wo3, hwo3⟩ : ∃ wo3, wo3 = ((w.alloc (.cells #[.int .i64 1, .int .i64 2, .int .i64 0] 3)).alloc (.cells #[.int .i64 1, .int .i64 0, .int .i64 2] 3)) := ⟨_, rfl⟩
  rw [← hwo3]
  have z4 : w.heap.size + 1 + 1 ≤ wo3.heap.size := by rw [hwo3]; simp only [World.size_alloc]; omega
  have L5 : Hid (MidC (w.heap.size) (w.heap.size + 1) wo3 (some ⟨w.heap.size, 0, none⟩) ([1, 2, 0]) (3)) := by rw [hwo3]; exact (n1.al (by simp only [World.size_alloc]; omega) (.cells #[.int .i64 1, .int .i64 0, .int .i64 2] 3))
  have L6 : Hid (MidC (w.heap.size + 1) (w.heap.size + 1 + 1) wo3 (some ⟨w.heap.size + 1, 0, none⟩) ([1, 0, 2]) (3)) := by rw [hwo3]; exact n2
  have hb7 : Hid (Below w.heap.size w wo3) := by rw [hwo3]; exact (((Below.refl w.heap.size w).alloc (by omega) (.cells #[.int .i64 1, .int .i64 2, .int .i64 0] 3)).alloc (by simp only [World.size_alloc]; omega) (.cells #[.int .i64 1, .int .i64 0, .int .i64 2] 3))
  have zwo3 : w.heap.size ≤ wo3.heap.size := hb7.out.size
  clear hwo3 n1 n2
  refine (af_ok (some ⟨w.heap.size, 0, none⟩) 3 [1, 2, 0] 3 rfl (some ⟨w.heap.size + 1, 0, none⟩) 3 [1, 0, 2] 3 rfl _ (by decide) (by decide) (L5.out.is (by omega)).1 (L6.out.is (by omega)).1 (lit_all (by decide)) (lit_all (by decide)) [2, 1, 0] HA (by decide)).mono ?_
  rintro e v1 ⟨g0, gc0, rfl, hN0, hB⟩
  have z8 : wo3.heap.size ≤ v1.heap.size := hB.size
  have L9 : Hid (MidC (w.heap.size) (w.heap.size + 1) v1 (some ⟨w.heap.size, 0, none⟩) ([1, 2, 0]) (3)) := L5.out.go (by omega) hB
  have L10 : Hid (MidC (w.heap.size + 1) (w.heap.size + 1 + 1) v1 (some ⟨w.heap.size + 1, 0, none⟩) ([1, 0, 2]) (3)) := L6.out.go (by omega) hB
  have hb11 : Hid (Below w.heap.size w v1) := hb7.out.trans (hB.mono hb7.out.size)
  have L12 : Hid (MidC (wo3.heap.size) (v1.heap.size) v1 (g0) ([2, 1, 0]) (gc0)) := hN0.midc
  clear hB hb7 L5 L6 hN0
  clear L9 L10
  have n13 := lit_mid v1 3 [2, 1, 0] 3 rfl
  simp only [List.map_cons, List.map_nil] at n13
  go_wp2_with fail
  obtain ⟨wo14, hwo14⟩ : ∃ wo14, wo14 = (v1.alloc (.cells #[.int .i64 2, .int .i64 1, .int .i64 0] 3)) := ⟨_, rfl⟩
  rw [← hwo14]
  have z15 : v1.heap.size + 1 ≤ wo14.heap.size := by rw [hwo14]; simp only [World.size_alloc]; omega
  have L16 : Hid (MidC (wo3.heap.size) (v1.heap.size) wo14 (g0) ([2, 1, 0]) (gc0)) := by rw [hwo14]; exact (L12.out.al (by omega) (.cells #[.int .i64 2, .int .i64 1, .int .i64 0] 3))
  have L17 : Hid (MidC (v1.heap.size) (v1.heap.size + 1) wo14 (some ⟨v1.heap.size, 0, none⟩) ([2, 1, 0]) (3)) := by rw [hwo14]; exact n13
  have hb18 : Hid (Below w.heap.size w wo14) := by rw [hwo14]; exact (hb11.out.alloc (by omega) (.cells #[.int .i64 2, .int .i64 1, .int .i64 0] 3))
  have zwo14 : w.heap.size ≤ wo14.heap.size := hb18.out.size
  clear hwo14 n13 hb11 L12
  refine (ints_any g0 gc0 [2, 1, 0] (some ⟨v1.heap.size, 0, none⟩) 3 [2, 1, 0] (by simp) _ _ (L16.out.is (by omega)).1 (L17.out.is (by omega)).1).mono ?_
  rintro e v2 ⟨rfl, hB⟩
  have z19 : wo14.heap.size ≤ v2.heap.size := hB.size
  have L20 : Hid (MidC (wo3.heap.size) (v1.heap.size) v2 (g0) ([2, 1, 0]) (gc0)) := L16.out.go (by omega) hB
  have L21 : Hid (MidC (v1.heap.size) (v1.heap.size + 1) v2 (some ⟨v1.heap.size, 0, none⟩) ([2, 1, 0]) (3)) := L17.out.go (by omega) hB
  have hb22 : Hid (Below w.heap.size w v2) := hb18.out.trans (hB.mono hb18.out.size)
  clear hB hb18 L16 L17
  rw [eqB_true rfl]
  clear L20 L21
  go_wp2_with fail
  refine (af_ok a1 c1 p1 p1.length rfl a2 c2 p2 p2.length rfl _ x1 x2 ((HI1.out.1.below hb22.out).mono hb22.out.size) ((HI2.out.1.below hb22.out).mono hb22.out.size) HI1.out.2 HI2.out.2 X HA HX.out).mono ?_
  rintro e v3 ⟨g1, gc1, rfl, hN1, hB⟩
  have z23 : v2.heap.size ≤ v3.heap.size := hB.size
  have hb24 : Hid (Below w.heap.size w v3) := hb22.out.trans (hB.mono hb22.out.size)
  have L25 : Hid (MidC (v2.heap.size) (v3.heap.size) v3 (g1) (X) (gc1)) := hN1.midc
  clear hB hb22 hN1
  go_wp2_with fail
  refine (af_ok g1 gc1 X X.length rfl a3 c3 p3 p3.length rfl _ (by have := HLL.out; omega) x3 (L25.out.is (by omega)).1 ((HI3.out.1.below hb24.out).mono hb24.out.size) HTX.out HI3.out.2 Y HA HY.out).mono ?_
  rintro e v4 ⟨g2, gc2, rfl, hN2, hB⟩
  have z26 : v3.heap.size ≤ v4.heap.size := hB.size
  have L27 : Hid (MidC (v2.heap.size) (v3.heap.size) v4 (g1) (X) (gc1)) := L25.out.go (by omega) hB
  have hb28 : Hid (Below w.heap.size w v4) := hb24.out.trans (hB.mono hb24.out.size)
  have L29 : Hid (MidC (v3.heap.size) (v4.heap.size) v4 (g2) (Y) (gc2)) := hN2.midc
  clear hB hb24 L25 hN2
  go_wp2_with fail
  refine (af_ok a2 c2 p2 p2.length rfl a3 c3 p3 p3.length rfl _ x2 x3 ((HI2.out.1.below hb28.out).mono hb28.out.size) ((HI3.out.1.below hb28.out).mono hb28.out.size) HI2.out.2 HI3.out.2 U HA HU.out).mono ?_
  rintro e v5 ⟨g3, gc3, rfl, hN3, hB⟩
  have z30 : v4.heap.size ≤ v5.heap.size := hB.size
  have L31 : Hid (MidC (v2.heap.size) (v3.heap.size) v5 (g1) (X) (gc1)) := L27.out.go (by omega) hB
  have L32 : Hid (MidC (v3.heap.size) (v4.heap.size) v5 (g2) (Y) (gc2)) := L29.out.go (by omega) hB
  have hb33 : Hid (Below w.heap.size w v5) := hb28.out.trans (hB.mono hb28.out.size)
  have L34 : Hid (MidC (v4.heap.size) (v5.heap.size) v5 (g3) (U) (gc3)) := hN3.midc
  clear hB hb28 L27 L29 hN3
  go_wp2_with fail
  refine (af_ok a1 c1 p1 p1.length rfl g3 gc3 U U.length rfl _ x1 (by have := HLL.out; omega) ((HI1.out.1.below hb33.out).mono hb33.out.size) (L34.out.is (by omega)).1 HI1.out.2 HT.out.1 Y HA HVV.out).mono ?_
  rintro e v6 ⟨g4, gc4, rfl, hN4, hB⟩
  have z35 : v5.heap.size ≤ v6.heap.size := hB.size
  have L36 : Hid (MidC (v2.heap.size) (v3.heap.size) v6 (g1) (X) (gc1)) := L31.out.go (by omega) hB
  have L37 : Hid (MidC (v3.heap.size) (v4.heap.size) v6 (g2) (Y) (gc2)) := L32.out.go (by omega) hB
  have L38 : Hid (MidC (v4.heap.size) (v5.heap.size) v6 (g3) (U) (gc3)) := L34.out.go (by omega) hB
  have hb39 : Hid (Below w.heap.size w v6) := hb33.out.trans (hB.mono hb33.out.size)
  have L40 : Hid (MidC (v5.heap.size) (v6.heap.size) v6 (g4) (Y) (gc4)) := hN4.midc
  clear hB hb33 L31 L32 L34 hN4
  go_wp2_with fail
  refine (list_eq g2 gc2 Y Y.length rfl g4 gc4 Y.length rfl _ (by have := HLL.out; omega) (L37.out.is (by omega)).1 (L40.out.is (by omega)).1).mono ?_
  rintro e v7 ⟨rfl, hB⟩
  have z41 : v6.heap.size ≤ v7.heap.size := hB.size
  have L42 : Hid (MidC (v2.heap.size) (v3.heap.size) v7 (g1) (X) (gc1)) := L36.out.go (by omega) hB
  have L43 : Hid (MidC (v3.heap.size) (v4.heap.size) v7 (g2) (Y) (gc2)) := L37.out.go (by omega) hB
  have L44 : Hid (MidC (v4.heap.size) (v5.heap.size) v7 (g3) (U) (gc3)) := L38.out.go (by omega) hB
  have L45 : Hid (MidC (v5.heap.size) (v6.heap.size) v7 (g4) (Y) (gc4)) := L40.out.go (by omega) hB
  have hb46 : Hid (Below w.heap.size w v7) := hb39.out.trans (hB.mono hb39.out.size)
  clear hB hb39 L36 L37 L38 L40
  clear L43 L45 L44
  go_wp2_with fail
  refine (iv_ok a1 c1 p1 p1.length rfl _ x1 ((HI1.out.1.below hb46.out).mono hb46.out.size) HI1.out.2 J1 HV HJ1.out).mono ?_
  rintro e v8 ⟨g5, gc5, rfl, hN5, hB⟩
  have z47 : v7.heap.size ≤ v8.heap.size := hB.size
  have L48 : Hid (MidC (v2.heap.size) (v3.heap.size) v8 (g1) (X) (gc1)) := L42.out.go (by omega) hB
  have hb49 : Hid (Below w.heap.size w v8) := hb46.out.trans (hB.mono hb46.out.size)
  have L50 : Hid (MidC (v7.heap.size) (v8.heap.size) v8 (g5) (J1) (gc5)) := hN5.midc
  clear hB hb46 L42 hN5
  go_wp2_with fail
  refine (af_ok g5 gc5 J1 J1.length rfl g1 gc1 X X.length rfl _ (by have := HLL.out; omega) (by have := HLL.out; omega) (L50.out.is (by omega)).1 (L48.out.is (by omega)).1 HT.out.2.1 HTX.out p2 HA HZ.out).mono ?_
  rintro e v9 ⟨g6, gc6, rfl, hN6, hB⟩
  have z51 : v8.heap.size ≤ v9.heap.size := hB.size
  have L52 : Hid (MidC (v2.heap.size) (v3.heap.size) v9 (g1) (X) (gc1)) := L48.out.go (by omega) hB
  have L53 : Hid (MidC (v7.heap.size) (v8.heap.size) v9 (g5) (J1) (gc5)) := L50.out.go (by omega) hB
  have hb54 : Hid (Below w.heap.size w v9) := hb49.out.trans (hB.mono hb49.out.size)
  have L55 : Hid (MidC (v8.heap.size) (v9.heap.size) v9 (g6) (p2) (gc6)) := hN6.midc
  clear hB hb49 L48 L50 hN6
  go_wp2_with fail
  refine (list_eq g6 gc6 p2 p2.length rfl a2 c2 p2.length rfl _ x2 (L55.out.is (by omega)).1 ((HI2.out.1.below hb54.out).mono hb54.out.size)).mono ?_
  rintro e v10 ⟨rfl, hB⟩
  have z56 : v9.heap.size ≤ v10.heap.size := hB.size
  have L57 : Hid (MidC (v2.heap.size) (v3.heap.size) v10 (g1) (X) (gc1)) := L52.out.go (by omega) hB
  have L58 : Hid (MidC (v7.heap.size) (v8.heap.size) v10 (g5) (J1) (gc5)) := L53.out.go (by omega) hB
  have L59 : Hid (MidC (v8.heap.size) (v9.heap.size) v10 (g6) (p2) (gc6)) := L55.out.go (by omega) hB
  have hb60 : Hid (Below w.heap.size w v10) := hb54.out.trans (hB.mono hb54.out.size)
  clear hB hb54 L52 L53 L55
  clear L59
  go_wp2_with fail
  refine (iv_ok a2 c2 p2 p2.length rfl _ x2 ((HI2.out.1.below hb60.out).mono hb60.out.size) HI2.out.2 J2 HV HJ2.out).mono ?_
  rintro e v11 ⟨g7, gc7, rfl, hN7, hB⟩
  have z61 : v10.heap.size ≤ v11.heap.size := hB.size
  have L62 : Hid (MidC (v2.heap.size) (v3.heap.size) v11 (g1) (X) (gc1)) := L57.out.go (by omega) hB
  have L63 : Hid (MidC (v7.heap.size) (v8.heap.size) v11 (g5) (J1) (gc5)) := L58.out.go (by omega) hB
  have hb64 : Hid (Below w.heap.size w v11) := hb60.out.trans (hB.mono hb60.out.size)
  have L65 : Hid (MidC (v10.heap.size) (v11.heap.size) v11 (g7) (J2) (gc7)) := hN7.midc
  clear hB hb60 L57 L58 hN7
  go_wp2_with fail
  refine (iv_ok g1 gc1 X X.length rfl _ (by have := HLL.out; omega) (L62.out.is (by omega)).1 HTX.out J3 HV HJ3.out).mono ?_
  rintro e v12 ⟨g8, gc8, rfl, hN8, hB⟩
  have z66 : v11.heap.size ≤ v12.heap.size := hB.size
  have L67 : Hid (MidC (v2.heap.size) (v3.heap.size) v12 (g1) (X) (gc1)) := L62.out.go (by omega) hB
  have L68 : Hid (MidC (v7.heap.size) (v8.heap.size) v12 (g5) (J1) (gc5)) := L63.out.go (by omega) hB
  have L69 : Hid (MidC (v10.heap.size) (v11.heap.size) v12 (g7) (J2) (gc7)) := L65.out.go (by omega) hB
  have hb70 : Hid (Below w.heap.size w v12) := hb64.out.trans (hB.mono hb64.out.size)
  have L71 : Hid (MidC (v11.heap.size) (v12.heap.size) v12 (g8) (J3) (gc8)) := hN8.midc
  clear hB hb64 L62 L63 L65 hN8
  go_wp2_with fail
  refine (af_ok g7 gc7 J2 J2.length rfl g5 gc5 J1 J1.length rfl _ (by have := HLL.out; omega) (by have := HLL.out; omega) (L69.out.is (by omega)).1 (L68.out.is (by omega)).1 HT.out.2.2 HT.out.2.1 J3 HA HO.out).mono ?_
  rintro e v13 ⟨g9, gc9, rfl, hN9, hB⟩
  have z72 : v12.heap.size ≤ v13.heap.size := hB.size
  have L73 : Hid (MidC (v2.heap.size) (v3.heap.size) v13 (g1) (X) (gc1)) := L67.out.go (by omega) hB
  have L74 : Hid (MidC (v7.heap.size) (v8.heap.size) v13 (g5) (J1) (gc5)) := L68.out.go (by omega) hB
  have L75 : Hid (MidC (v10.heap.size) (v11.heap.size) v13 (g7) (J2) (gc7)) := L69.out.go (by omega) hB
  have L76 : Hid (MidC (v11.heap.size) (v12.heap.size) v13 (g8) (J3) (gc8)) := L71.out.go (by omega) hB
  have hb77 : Hid (Below w.heap.size w v13) := hb70.out.trans (hB.mono hb70.out.size)
  have L78 : Hid (MidC (v12.heap.size) (v13.heap.size) v13 (g9) (J3) (gc9)) := hN9.midc
  clear hB hb70 L67 L68 L69 L71 hN9
  go_wp2_with fail
  refine (list_eq g8 gc8 J3 J3.length rfl g9 gc9 J3.length rfl _ (by have := HLL.out; omega) (L76.out.is (by omega)).1 (L78.out.is (by omega)).1).mono ?_
  rintro e v14 ⟨rfl, hB⟩
  have z79 : v13.heap.size ≤ v14.heap.size := hB.size
  have L80 : Hid (MidC (v2.heap.size) (v3.heap.size) v14 (g1) (X) (gc1)) := L73.out.go (by omega) hB
  have L81 : Hid (MidC (v7.heap.size) (v8.heap.size) v14 (g5) (J1) (gc5)) := L74.out.go (by omega) hB
  have L82 : Hid (MidC (v10.heap.size) (v11.heap.size) v14 (g7) (J2) (gc7)) := L75.out.go (by omega) hB
  have L83 : Hid (MidC (v11.heap.size) (v12.heap.size) v14 (g8) (J3) (gc8)) := L76.out.go (by omega) hB
  have L84 : Hid (MidC (v12.heap.size) (v13.heap.size) v14 (g9) (J3) (gc9)) := L78.out.go (by omega) hB
  have hb85 : Hid (Below w.heap.size w v14) := hb77.out.trans (hB.mono hb77.out.size)
  clear hB hb77 L73 L74 L75 L76 L78
  clear L83 L84 L82 L81 L80
  go_wp2_with fail
  go_ret
  exact ⟨rfl, hb85.out⟩
theorem pgroup_walk (HA : CPa) (HV : CPi) (a1 : Option Addr) (c1 : Nat) (p1 : List Int) (x1 : p1.length ≤ 9223372036854775807) (T1 : ∀ j, In64 (nth p1 j)) (a2 : Option Addr) (c2 : Nat) (p2 : List Int) (x2 : p2.length ≤ 9223372036854775807) (T2 : ∀ j, In64 (nth p2 j)) (a3 : Option Addr) (c3 : Nat) (p3 : List Int) (x3 : p3.length ≤ 9223372036854775807) (T3 : ∀ j, In64 (nth p3 j)) (w : World) (w1 : IsInts w.heap.size w a1 p1) (w2 : IsInts w.heap.size w a2 p2) (w3 : IsInts w.heap.size w a3 p3) :
    Calls Try.prog 3 #[.slice a1 p1.length c1, .slice a2 p2.length c2, .slice a3 p3.length c3] w fun e w' => e = .returned (.bool true) ∧ Below w.heap.size w w' := by
  by_cases h1 : afE p1 p2 = 0
  · by_cases h2 : afE (aft p1 p2) p3 = 0
    · exact group_ok HA HV a1 c1 p1 x1 T1 a2 c2 p2 x2 T2 a3 c3 p3 x3 T3 w w1 w2 w3 h1 h2
    · exact group_no2 HA HV a1 c1 p1 x1 T1 a2 c2 p2 x2 T2 a3 c3 p3 x3 T3 w w1 w2 w3 h1 h2
  · exact group_no1 HA HV a1 c1 p1 x1 T1 a2 c2 p2 x2 T2 a3 c3 p3 x3 T3 w w1 w2 w3 h1
end Go.Proofs.Ytcblakcaoecgpaa
