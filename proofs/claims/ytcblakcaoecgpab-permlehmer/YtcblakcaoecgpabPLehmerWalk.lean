/-
  The walk of the statement PermLehmer, given what the program tells.
-/
import Derived.Test.YtcblakcaoecgpabPrmv
import Derived.Test.YtcblakcaoecgpabRcmp
namespace Go.Proofs.Ytcblakcaoecgpab
open Go.RowKit
set_option linter.unusedVariables false

theorem lit_all {xs : List Int} (h : xs.all (fun x => decide (-9223372036854775808 ≤ x ∧ x ≤ 9223372036854775807)) = true) : ∀ j, In64 (nth xs j) := fun j => by
  by_cases hj : j < xs.length
  · have : nth xs j ∈ xs := by simp [nth, hj]
    exact of_decide_eq_true (p := -9223372036854775808 ≤ nth xs j ∧ nth xs j ≤ 9223372036854775807) (List.all_eq_true.1 h _ this)
  · have : nth xs j = 0 := by simp [nth, List.getElem?_eq_none (Nat.le_of_not_lt hj)]
    rw [this]; unfold In64; decide
theorem fac_12 : ∀ n, n < 13 → fac n ≤ 479001600 := by decide
theorem rk_12 {p : List Int} (h : p.length ≤ 12) : rk p < 479001600 := Nat.lt_of_lt_of_le (rk_lt p) (fac_12 _ (by omega))
set_option maxRecDepth 100000 in
set_option maxHeartbeats 8000000 in
theorem lehmer_no (HR : CPr) (HU : CPu) (a1 : Option Addr) (c1 : Nat) (p1 : List Int) (x1 : p1.length ≤ 9223372036854775807) (T1 : ∀ j, In64 (nth p1 j)) (a2 : Option Addr) (c2 : Nat) (p2 : List Int) (x2 : p2.length ≤ 9223372036854775807) (T2 : ∀ j, In64 (nth p2 j)) (n k : Int) (hn64 : In64 n) (hk64 : In64 k) (w : World) (w1 : IsC w.heap.size w a1 p1 c1) (w2 : IsC w.heap.size w a2 p2 c2) (F1 : Hid (urE n k ≠ 0)) :
    Calls Try.prog 4 #[.slice a1 p1.length c1, .slice a2 p2.length c2, .int .i64 n, .int .i64 k] w fun e w' => e = .returned (.bool true) ∧ Below w.heap.size w w' := by
  have HI1 : Hid (IsC w.heap.size w a1 p1 c1 ∧ ∀ j, In64 (nth p1 j)) := ⟨w1, T1⟩
  have HI2 : Hid (IsC w.heap.size w a2 p2 c2 ∧ ∀ j, In64 (nth p2 j)) := ⟨w2, T2⟩
  clear w1 T1 w2 T2
  have n1 := lit_mid w 3 [2, 0, 1] 3 rfl
  simp only [List.map_cons, List.map_nil] at n1
  go_enter Try.func4, Try.ntmps4
  go_wp2_with fail
  obtain ⟨wo2, hwo2⟩ : ∃ wo2, wo2 = (w.alloc (.cells #[.int .i64 2, .int .i64 0, .int .i64 1] 3)) := ⟨_, rfl⟩
  rw [← hwo2]
  have z3 : w.heap.size + 1 ≤ wo2.heap.size := by rw [hwo2]; simp only [World.size_alloc]; omega
  have L4 : Hid (MidC (w.heap.size) (w.heap.size + 1) wo2 (some ⟨w.heap.size, 0, none⟩) ([2, 0, 1]) (3)) := by rw [hwo2]; exact n1
  have hb5 : Hid (Below w.heap.size w wo2) := by rw [hwo2]; exact ((Below.refl w.heap.size w).alloc (by omega) (.cells #[.int .i64 2, .int .i64 0, .int .i64 1] 3))
  have zwo2 : w.heap.size ≤ wo2.heap.size := hb5.out.size
  clear hwo2 n1
  refine (rn_ok (some ⟨w.heap.size, 0, none⟩) 3 [2, 0, 1] 3 rfl _ (by decide) (L4.out.is (by omega)) (lit_all (by decide)) 4 HR (by decide)).mono ?_
  rintro e v1 ⟨rfl, hB⟩
  have z6 : wo2.heap.size ≤ v1.heap.size := hB.size
  have L7 : Hid (MidC (w.heap.size) (w.heap.size + 1) v1 (some ⟨w.heap.size, 0, none⟩) ([2, 0, 1]) (3)) := L4.out.go (by omega) hB
  have hb8 : Hid (Below w.heap.size w v1) := hb5.out.trans (hB.mono hb5.out.size)
  clear hB hb5 L4
  clear L7
  go_wp2_with fail
  refine (un_no n k _ hn64 hk64 HU F1.out).mono ?_
  rintro e v2 ⟨g1, gc1, rfl, hN1, hB⟩
  have z9 : v1.heap.size ≤ v2.heap.size := hB.size
  have hb10 : Hid (Below w.heap.size w v2) := hb8.out.trans (hB.mono hb8.out.size)
  have L11 : Hid (MidC (v1.heap.size) (v2.heap.size) v2 (g1) ([]) (gc1)) := hN1.midc
  clear hB hb8 hN1
  clear L11
  go_wp2_with fail
  by_cases hp : rkE p1 = 0
  rotate_left
  · obtain ⟨E2, hE2⟩ : ∃ E, E = rkE p2 := ⟨_, rfl⟩
    obtain ⟨Z2, hZ2⟩ : ∃ Z, Z = onZ (rkE p2) (rk p2) := ⟨_, rfl⟩
    have h2 := fun u hu => HR a2 c2 p2 u x2 hu HI2.out.2
    rw [← hZ2, ← hE2] at h2
    have HN : Hid (∀ u, IsC u.heap.size u a2 p2 c2 → Calls Try.prog 11 #[.slice a2 p2.length c2] u (UZ E2 Z2 u)) := h2
    clear h2 hE2 hZ2
    refine (rn_no a1 c1 p1 p1.length rfl _ x1 ((HI1.out.1.below hb10.out).mono hb10.out.size) HI1.out.2 HR hp).mono ?_
    rintro e v3 ⟨rfl, hB⟩
    have z12 : v2.heap.size ≤ v3.heap.size := hB.size
    have hb13 : Hid (Below w.heap.size w v3) := hb10.out.trans (hB.mono hb10.out.size)
    clear hB hb10
    go_wp2_with fail
    refine (HN.out _ ((HI2.out.1.below hb13.out).mono hb13.out.size)).mono ?_
    rintro e v4 ⟨rfl, hB⟩
    have z14 : v3.heap.size ≤ v4.heap.size := hB.size
    have hb15 : Hid (Below w.heap.size w v4) := hb13.out.trans (hB.mono hb13.out.size)
    clear hB hb13
    go_wp2_with fail
    go_ret
    exact ⟨rfl, hb15.out⟩
  obtain ⟨A, hA⟩ : ∃ A : Int, A = (rk p1 : Int) := ⟨_, rfl⟩
  obtain ⟨e1, l1⟩ := rkE_zero.1 hp
  obtain ⟨_, o1⟩ := orE_zero.1 e1
  have HP : Hid (A = (rk p1 : Int) ∧ 0 ≤ A ∧ A < 479001600 ∧ p1.length ≤ 12) := ⟨hA, by omega, by have := rk_12 l1; omega, l1⟩
  have HO1 : Hid (IsOrd p1) := o1
  have HRA : Hid (rkE p1 = 0 ∧ (rk p1 : Int) = A) := ⟨hp, hA.symm⟩
  have HUA : Hid (urE (p1.length : Int) A = 0 ∧ ur (p1.length : Int).toNat (idn (p1.length : Int).toNat) A.toNat = p1) := by
    rw [hA, Int.toNat_natCast, Int.toNat_natCast]
    exact ⟨urE_zero.2 ⟨by omega, by omega, by omega, by rw [Int.toNat_natCast]; exact Int.ofNat_lt.2 (rk_lt p1)⟩, ur_back o1⟩
  clear hA e1 l1 o1 hp
  refine (rn_ok a1 c1 p1 p1.length rfl _ x1 ((HI1.out.1.below hb10.out).mono hb10.out.size) HI1.out.2 A HR HRA.out).mono ?_
  rintro e v3 ⟨rfl, hB⟩
  have z12 : v2.heap.size ≤ v3.heap.size := hB.size
  have hb13 : Hid (Below w.heap.size w v3) := hb10.out.trans (hB.mono hb10.out.size)
  clear hB hb10
  go_wp2_with fail
  by_cases hq : rkE p2 = 0
  rotate_left
  · refine (rn_no a2 c2 p2 p2.length rfl _ x2 ((HI2.out.1.below hb13.out).mono hb13.out.size) HI2.out.2 HR hq).mono ?_
    rintro e v4 ⟨rfl, hB⟩
    have z14 : v3.heap.size ≤ v4.heap.size := hB.size
    have hb15 : Hid (Below w.heap.size w v4) := hb13.out.trans (hB.mono hb13.out.size)
    clear hB hb13
    go_wp2_with fail
    refine (un_ok (p1.length : Int) A _ (by unfold In64; have := HP.out; omega) (by unfold In64; have := HP.out; omega) p1 HU HUA.out).mono ?_
    rintro e v5 ⟨g4, gc4, rfl, hN4, hB⟩
    have z16 : v4.heap.size ≤ v5.heap.size := hB.size
    have hb17 : Hid (Below w.heap.size w v5) := hb15.out.trans (hB.mono hb15.out.size)
    have L18 : Hid (MidC (v4.heap.size) (v5.heap.size) v5 (g4) (p1) (gc4)) := hN4.midc
    clear hB hb15 hN4
    go_wp2_with fail
    refine (list_eq g4 gc4 p1 p1.length rfl a1 c1 p1.length rfl _ x1 (L18.out.is (by omega)).1 ((HI1.out.1.below hb17.out).mono hb17.out.size).1).mono ?_
    rintro e v6 ⟨rfl, hB⟩
    have z19 : v5.heap.size ≤ v6.heap.size := hB.size
    have L20 : Hid (MidC (v4.heap.size) (v5.heap.size) v6 (g4) (p1) (gc4)) := L18.out.go (by omega) hB
    have hb21 : Hid (Below w.heap.size w v6) := hb17.out.trans (hB.mono hb17.out.size)
    clear hB hb17 L18
    clear L20
    go_wp2_with fail
    go_ret
    exact ⟨rfl, hb21.out⟩
  obtain ⟨B, hB'⟩ : ∃ B : Int, B = (rk p2 : Int) := ⟨_, rfl⟩
  have HRB : Hid (rkE p2 = 0 ∧ (rk p2 : Int) = B) := ⟨hq, hB'.symm⟩
  have HB2 : Hid (B = (rk p2 : Int) ∧ IsOrd p2) := ⟨hB', (orE_zero.1 (rkE_zero.1 hq).1).2⟩
  clear hB' hq
  refine (rn_ok a2 c2 p2 p2.length rfl _ x2 ((HI2.out.1.below hb13.out).mono hb13.out.size) HI2.out.2 B HR HRB.out).mono ?_
  rintro e v4 ⟨rfl, hB⟩
  have z14 : v3.heap.size ≤ v4.heap.size := hB.size
  have hb15 : Hid (Below w.heap.size w v4) := hb13.out.trans (hB.mono hb13.out.size)
  clear hB hb13
  go_wp2_with fail
  refine (un_ok (p1.length : Int) A _ (by unfold In64; have := HP.out; omega) (by unfold In64; have := HP.out; omega) p1 HU HUA.out).mono ?_
  rintro e v5 ⟨g4, gc4, rfl, hN4, hB⟩
  have z16 : v4.heap.size ≤ v5.heap.size := hB.size
  have hb17 : Hid (Below w.heap.size w v5) := hb15.out.trans (hB.mono hb15.out.size)
  have L18 : Hid (MidC (v4.heap.size) (v5.heap.size) v5 (g4) (p1) (gc4)) := hN4.midc
  clear hB hb15 hN4
  go_wp2_with fail
  refine (list_eq g4 gc4 p1 p1.length rfl a1 c1 p1.length rfl _ x1 (L18.out.is (by omega)).1 ((HI1.out.1.below hb17.out).mono hb17.out.size).1).mono ?_
  rintro e v6 ⟨rfl, hB⟩
  have z19 : v5.heap.size ≤ v6.heap.size := hB.size
  have L20 : Hid (MidC (v4.heap.size) (v5.heap.size) v6 (g4) (p1) (gc4)) := L18.out.go (by omega) hB
  have hb21 : Hid (Below w.heap.size w v6) := hb17.out.trans (hB.mono hb17.out.size)
  clear hB hb17 L18
  clear L20
  by_cases hl : p1.length = p2.length
  rotate_left
  · have hne : ((p1.length : Int) != (p2.length : Int)) = true := by simp; omega
    clear hl
    go_wp2_with fail
    go_ret
    exact ⟨rfl, hb21.out⟩
  have hne : ((p1.length : Int) != (p2.length : Int)) = false := by simp [hl]
  have HL : Hid (p1.length = p2.length) := hl
  clear hl
  obtain ⟨C, hC⟩ : ∃ C, C = cmpL p1 p2 := ⟨_, rfl⟩
  have HC : Hid (C = cmpL p1 p2 ∧ (A < B ↔ C < 0) ∧ (A = B ↔ C = 0)) := by
    have h := rk_ord HO1.out HB2.out.2 HL.out
    rw [← hC] at h
    have e1 := HP.out.1
    have e2 := HB2.out.1
    exact ⟨hC, by rw [← h.1]; omega, by rw [← h.2]; omega⟩
  clear hC
  rcases Int.lt_trichotomy A B with hAB | hAB | hAB
  · have t1 : decide (A < B) = true := by exact decide_eq_true (by omega)
    have t2 : decide (C < 0) = true := by exact decide_eq_true (HC.out.2.1.1 (by omega))
    have t3 : (A == B) = false := by rw [beq_eq_false_iff_ne]; omega
    have t4 : (C == 0) = false := by rw [beq_eq_false_iff_ne]; exact fun h => by have := HC.out.2.2.2 h; omega
    clear hAB
    go_wp2_with fail
    refine (cmp_any a1 c1 p1 a2 c2 p2 HL.out x1 _ _ ((HI1.out.1.below hb21.out).mono hb21.out.size).1 ((HI2.out.1.below hb21.out).mono hb21.out.size).1).mono ?_
    rintro e v7 ⟨rfl, hB⟩
    have z22 : v6.heap.size ≤ v7.heap.size := hB.size
    have hb23 : Hid (Below w.heap.size w v7) := hb21.out.trans (hB.mono hb21.out.size)
    clear hB hb21
    rw [← HC.out.1]
    go_wp2_with fail
    refine (cmp_any a1 c1 p1 a2 c2 p2 HL.out x1 _ _ ((HI1.out.1.below hb23.out).mono hb23.out.size).1 ((HI2.out.1.below hb23.out).mono hb23.out.size).1).mono ?_
    rintro e v8 ⟨rfl, hB⟩
    have z24 : v7.heap.size ≤ v8.heap.size := hB.size
    have hb25 : Hid (Below w.heap.size w v8) := hb23.out.trans (hB.mono hb23.out.size)
    clear hB hb23
    rw [← HC.out.1]
    go_wp2_with fail
    go_ret
    exact ⟨rfl, hb25.out⟩
  · have t1 : decide (A < B) = false := by exact decide_eq_false (by omega)
    have t2 : decide (C < 0) = false := by exact decide_eq_false (fun h => by have := HC.out.2.1.2 h; omega)
    have t3 : (A == B) = true := by rw [beq_iff_eq]; omega
    have t4 : (C == 0) = true := by rw [beq_iff_eq]; exact HC.out.2.2.1 (by omega)
    clear hAB
    go_wp2_with fail
    refine (cmp_any a1 c1 p1 a2 c2 p2 HL.out x1 _ _ ((HI1.out.1.below hb21.out).mono hb21.out.size).1 ((HI2.out.1.below hb21.out).mono hb21.out.size).1).mono ?_
    rintro e v7 ⟨rfl, hB⟩
    have z22 : v6.heap.size ≤ v7.heap.size := hB.size
    have hb23 : Hid (Below w.heap.size w v7) := hb21.out.trans (hB.mono hb21.out.size)
    clear hB hb21
    rw [← HC.out.1]
    go_wp2_with fail
    refine (cmp_any a1 c1 p1 a2 c2 p2 HL.out x1 _ _ ((HI1.out.1.below hb23.out).mono hb23.out.size).1 ((HI2.out.1.below hb23.out).mono hb23.out.size).1).mono ?_
    rintro e v8 ⟨rfl, hB⟩
    have z24 : v7.heap.size ≤ v8.heap.size := hB.size
    have hb25 : Hid (Below w.heap.size w v8) := hb23.out.trans (hB.mono hb23.out.size)
    clear hB hb23
    rw [← HC.out.1]
    go_wp2_with fail
    go_ret
    exact ⟨rfl, hb25.out⟩
  · have t1 : decide (A < B) = false := by exact decide_eq_false (by omega)
    have t2 : decide (C < 0) = false := by exact decide_eq_false (fun h => by have := HC.out.2.1.2 h; omega)
    have t3 : (A == B) = false := by rw [beq_eq_false_iff_ne]; omega
    have t4 : (C == 0) = false := by rw [beq_eq_false_iff_ne]; exact fun h => by have := HC.out.2.2.2 h; omega
    clear hAB
    go_wp2_with fail
    refine (cmp_any a1 c1 p1 a2 c2 p2 HL.out x1 _ _ ((HI1.out.1.below hb21.out).mono hb21.out.size).1 ((HI2.out.1.below hb21.out).mono hb21.out.size).1).mono ?_
    rintro e v7 ⟨rfl, hB⟩
    have z22 : v6.heap.size ≤ v7.heap.size := hB.size
    have hb23 : Hid (Below w.heap.size w v7) := hb21.out.trans (hB.mono hb21.out.size)
    clear hB hb21
    rw [← HC.out.1]
    go_wp2_with fail
    refine (cmp_any a1 c1 p1 a2 c2 p2 HL.out x1 _ _ ((HI1.out.1.below hb23.out).mono hb23.out.size).1 ((HI2.out.1.below hb23.out).mono hb23.out.size).1).mono ?_
    rintro e v8 ⟨rfl, hB⟩
    have z24 : v7.heap.size ≤ v8.heap.size := hB.size
    have hb25 : Hid (Below w.heap.size w v8) := hb23.out.trans (hB.mono hb23.out.size)
    clear hB hb23
    rw [← HC.out.1]
    go_wp2_with fail
    go_ret
    exact ⟨rfl, hb25.out⟩
set_option maxRecDepth 100000 in
set_option maxHeartbeats 8000000 in
theorem lehmer_ok (HR : CPr) (HU : CPu) (a1 : Option Addr) (c1 : Nat) (p1 : List Int) (x1 : p1.length ≤ 9223372036854775807) (T1 : ∀ j, In64 (nth p1 j)) (a2 : Option Addr) (c2 : Nat) (p2 : List Int) (x2 : p2.length ≤ 9223372036854775807) (T2 : ∀ j, In64 (nth p2 j)) (n k : Int) (hn64 : In64 n) (hk64 : In64 k) (w : World) (w1 : IsC w.heap.size w a1 p1 c1) (w2 : IsC w.heap.size w a2 p2 c2) (F1 : Hid (urE n k = 0)) :
    Calls Try.prog 4 #[.slice a1 p1.length c1, .slice a2 p2.length c2, .int .i64 n, .int .i64 k] w fun e w' => e = .returned (.bool true) ∧ Below w.heap.size w w' := by
  have HI1 : Hid (IsC w.heap.size w a1 p1 c1 ∧ ∀ j, In64 (nth p1 j)) := ⟨w1, T1⟩
  have HI2 : Hid (IsC w.heap.size w a2 p2 c2 ∧ ∀ j, In64 (nth p2 j)) := ⟨w2, T2⟩
  clear w1 T1 w2 T2
  obtain ⟨n0, n1, k0, k1⟩ := urE_zero.1 F1.out
  obtain ⟨X, hX⟩ : ∃ X, X = ur n.toNat (idn n.toNat) k.toNat := ⟨_, rfl⟩
  obtain ⟨oX, lX, rX⟩ := ur_ord (n := n.toNat) (k := k.toNat) (by omega)
  rw [← hX] at oX lX rX
  have HX : Hid (urE n k = 0 ∧ ur n.toNat (idn n.toNat) k.toNat = X) := ⟨F1.out, hX.symm⟩
  have HRX : Hid (rkE X = 0 ∧ (rk X : Int) = k) := ⟨rkE_zero.2 ⟨orE_of oX (by omega), by omega⟩, by omega⟩
  have HLX : Hid (X.length ≤ 12 ∧ ∀ j, In64 (nth X j)) := ⟨by omega, ord_64 oX (by omega)⟩
  have hXn : ((X.length : Int) != n) = false := by rw [bne_eq_false_iff_eq]; omega
  clear n0 n1 k0 k1 hX oX lX rX
  have n1 := lit_mid w 3 [2, 0, 1] 3 rfl
  simp only [List.map_cons, List.map_nil] at n1
  go_enter Try.func4, Try.ntmps4
  go_wp2_with fail
  obtain ⟨wo2, hwo2⟩ : ∃ wo2, wo2 = (w.alloc (.cells #[.int .i64 2, .int .i64 0, .int .i64 1] 3)) := ⟨_, rfl⟩
  rw [← hwo2]
  have z3 : w.heap.size + 1 ≤ wo2.heap.size := by rw [hwo2]; simp only [World.size_alloc]; omega
  have L4 : Hid (MidC (w.heap.size) (w.heap.size + 1) wo2 (some ⟨w.heap.size, 0, none⟩) ([2, 0, 1]) (3)) := by rw [hwo2]; exact n1
  have hb5 : Hid (Below w.heap.size w wo2) := by rw [hwo2]; exact ((Below.refl w.heap.size w).alloc (by omega) (.cells #[.int .i64 2, .int .i64 0, .int .i64 1] 3))
  have zwo2 : w.heap.size ≤ wo2.heap.size := hb5.out.size
  clear hwo2 n1
  refine (rn_ok (some ⟨w.heap.size, 0, none⟩) 3 [2, 0, 1] 3 rfl _ (by decide) (L4.out.is (by omega)) (lit_all (by decide)) 4 HR (by decide)).mono ?_
  rintro e v1 ⟨rfl, hB⟩
  have z6 : wo2.heap.size ≤ v1.heap.size := hB.size
  have L7 : Hid (MidC (w.heap.size) (w.heap.size + 1) v1 (some ⟨w.heap.size, 0, none⟩) ([2, 0, 1]) (3)) := L4.out.go (by omega) hB
  have hb8 : Hid (Below w.heap.size w v1) := hb5.out.trans (hB.mono hb5.out.size)
  clear hB hb5 L4
  clear L7
  go_wp2_with fail
  refine (un_ok n k _ hn64 hk64 X HU HX.out).mono ?_
  rintro e v2 ⟨g1, gc1, rfl, hN1, hB⟩
  have z9 : v1.heap.size ≤ v2.heap.size := hB.size
  have hb10 : Hid (Below w.heap.size w v2) := hb8.out.trans (hB.mono hb8.out.size)
  have L11 : Hid (MidC (v1.heap.size) (v2.heap.size) v2 (g1) (X) (gc1)) := hN1.midc
  clear hB hb8 hN1
  go_wp2_with fail
  refine (rn_ok g1 gc1 X X.length rfl _ (by have := HLX.out.1; omega) (L11.out.is (by omega)) HLX.out.2 k HR HRX.out).mono ?_
  rintro e v3 ⟨rfl, hB⟩
  have z12 : v2.heap.size ≤ v3.heap.size := hB.size
  have L13 : Hid (MidC (v1.heap.size) (v2.heap.size) v3 (g1) (X) (gc1)) := L11.out.go (by omega) hB
  have hb14 : Hid (Below w.heap.size w v3) := hb10.out.trans (hB.mono hb10.out.size)
  clear hB hb10 L11
  clear L13
  go_wp2_with fail
  by_cases hp : rkE p1 = 0
  rotate_left
  · obtain ⟨E2, hE2⟩ : ∃ E, E = rkE p2 := ⟨_, rfl⟩
    obtain ⟨Z2, hZ2⟩ : ∃ Z, Z = onZ (rkE p2) (rk p2) := ⟨_, rfl⟩
    have h2 := fun u hu => HR a2 c2 p2 u x2 hu HI2.out.2
    rw [← hZ2, ← hE2] at h2
    have HN : Hid (∀ u, IsC u.heap.size u a2 p2 c2 → Calls Try.prog 11 #[.slice a2 p2.length c2] u (UZ E2 Z2 u)) := h2
    clear h2 hE2 hZ2
    refine (rn_no a1 c1 p1 p1.length rfl _ x1 ((HI1.out.1.below hb14.out).mono hb14.out.size) HI1.out.2 HR hp).mono ?_
    rintro e v4 ⟨rfl, hB⟩
    have z15 : v3.heap.size ≤ v4.heap.size := hB.size
    have hb16 : Hid (Below w.heap.size w v4) := hb14.out.trans (hB.mono hb14.out.size)
    clear hB hb14
    go_wp2_with fail
    refine (HN.out _ ((HI2.out.1.below hb16.out).mono hb16.out.size)).mono ?_
    rintro e v5 ⟨rfl, hB⟩
    have z17 : v4.heap.size ≤ v5.heap.size := hB.size
    have hb18 : Hid (Below w.heap.size w v5) := hb16.out.trans (hB.mono hb16.out.size)
    clear hB hb16
    go_wp2_with fail
    go_ret
    exact ⟨rfl, hb18.out⟩
  obtain ⟨A, hA⟩ : ∃ A : Int, A = (rk p1 : Int) := ⟨_, rfl⟩
  obtain ⟨e1, l1⟩ := rkE_zero.1 hp
  obtain ⟨_, o1⟩ := orE_zero.1 e1
  have HP : Hid (A = (rk p1 : Int) ∧ 0 ≤ A ∧ A < 479001600 ∧ p1.length ≤ 12) := ⟨hA, by omega, by have := rk_12 l1; omega, l1⟩
  have HO1 : Hid (IsOrd p1) := o1
  have HRA : Hid (rkE p1 = 0 ∧ (rk p1 : Int) = A) := ⟨hp, hA.symm⟩
  have HUA : Hid (urE (p1.length : Int) A = 0 ∧ ur (p1.length : Int).toNat (idn (p1.length : Int).toNat) A.toNat = p1) := by
    rw [hA, Int.toNat_natCast, Int.toNat_natCast]
    exact ⟨urE_zero.2 ⟨by omega, by omega, by omega, by rw [Int.toNat_natCast]; exact Int.ofNat_lt.2 (rk_lt p1)⟩, ur_back o1⟩
  clear hA e1 l1 o1 hp
  refine (rn_ok a1 c1 p1 p1.length rfl _ x1 ((HI1.out.1.below hb14.out).mono hb14.out.size) HI1.out.2 A HR HRA.out).mono ?_
  rintro e v4 ⟨rfl, hB⟩
  have z15 : v3.heap.size ≤ v4.heap.size := hB.size
  have hb16 : Hid (Below w.heap.size w v4) := hb14.out.trans (hB.mono hb14.out.size)
  clear hB hb14
  go_wp2_with fail
  by_cases hq : rkE p2 = 0
  rotate_left
  · refine (rn_no a2 c2 p2 p2.length rfl _ x2 ((HI2.out.1.below hb16.out).mono hb16.out.size) HI2.out.2 HR hq).mono ?_
    rintro e v5 ⟨rfl, hB⟩
    have z17 : v4.heap.size ≤ v5.heap.size := hB.size
    have hb18 : Hid (Below w.heap.size w v5) := hb16.out.trans (hB.mono hb16.out.size)
    clear hB hb16
    go_wp2_with fail
    refine (un_ok (p1.length : Int) A _ (by unfold In64; have := HP.out; omega) (by unfold In64; have := HP.out; omega) p1 HU HUA.out).mono ?_
    rintro e v6 ⟨g4, gc4, rfl, hN4, hB⟩
    have z19 : v5.heap.size ≤ v6.heap.size := hB.size
    have hb20 : Hid (Below w.heap.size w v6) := hb18.out.trans (hB.mono hb18.out.size)
    have L21 : Hid (MidC (v5.heap.size) (v6.heap.size) v6 (g4) (p1) (gc4)) := hN4.midc
    clear hB hb18 hN4
    go_wp2_with fail
    refine (list_eq g4 gc4 p1 p1.length rfl a1 c1 p1.length rfl _ x1 (L21.out.is (by omega)).1 ((HI1.out.1.below hb20.out).mono hb20.out.size).1).mono ?_
    rintro e v7 ⟨rfl, hB⟩
    have z22 : v6.heap.size ≤ v7.heap.size := hB.size
    have L23 : Hid (MidC (v5.heap.size) (v6.heap.size) v7 (g4) (p1) (gc4)) := L21.out.go (by omega) hB
    have hb24 : Hid (Below w.heap.size w v7) := hb20.out.trans (hB.mono hb20.out.size)
    clear hB hb20 L21
    clear L23
    go_wp2_with fail
    go_ret
    exact ⟨rfl, hb24.out⟩
  obtain ⟨B, hB'⟩ : ∃ B : Int, B = (rk p2 : Int) := ⟨_, rfl⟩
  have HRB : Hid (rkE p2 = 0 ∧ (rk p2 : Int) = B) := ⟨hq, hB'.symm⟩
  have HB2 : Hid (B = (rk p2 : Int) ∧ IsOrd p2) := ⟨hB', (orE_zero.1 (rkE_zero.1 hq).1).2⟩
  clear hB' hq
  refine (rn_ok a2 c2 p2 p2.length rfl _ x2 ((HI2.out.1.below hb16.out).mono hb16.out.size) HI2.out.2 B HR HRB.out).mono ?_
  rintro e v5 ⟨rfl, hB⟩
  have z17 : v4.heap.size ≤ v5.heap.size := hB.size
  have hb18 : Hid (Below w.heap.size w v5) := hb16.out.trans (hB.mono hb16.out.size)
  clear hB hb16
  go_wp2_with fail
  refine (un_ok (p1.length : Int) A _ (by unfold In64; have := HP.out; omega) (by unfold In64; have := HP.out; omega) p1 HU HUA.out).mono ?_
  rintro e v6 ⟨g4, gc4, rfl, hN4, hB⟩
  have z19 : v5.heap.size ≤ v6.heap.size := hB.size
  have hb20 : Hid (Below w.heap.size w v6) := hb18.out.trans (hB.mono hb18.out.size)
  have L21 : Hid (MidC (v5.heap.size) (v6.heap.size) v6 (g4) (p1) (gc4)) := hN4.midc
  clear hB hb18 hN4
  go_wp2_with fail
  refine (list_eq g4 gc4 p1 p1.length rfl a1 c1 p1.length rfl _ x1 (L21.out.is (by omega)).1 ((HI1.out.1.below hb20.out).mono hb20.out.size).1).mono ?_
  rintro e v7 ⟨rfl, hB⟩
  have z22 : v6.heap.size ≤ v7.heap.size := hB.size
  have L23 : Hid (MidC (v5.heap.size) (v6.heap.size) v7 (g4) (p1) (gc4)) := L21.out.go (by omega) hB
  have hb24 : Hid (Below w.heap.size w v7) := hb20.out.trans (hB.mono hb20.out.size)
  clear hB hb20 L21
  clear L23
  by_cases hl : p1.length = p2.length
  rotate_left
  · have hne : ((p1.length : Int) != (p2.length : Int)) = true := by simp; omega
    clear hl
    go_wp2_with fail
    go_ret
    exact ⟨rfl, hb24.out⟩
  have hne : ((p1.length : Int) != (p2.length : Int)) = false := by simp [hl]
  have HL : Hid (p1.length = p2.length) := hl
  clear hl
  obtain ⟨C, hC⟩ : ∃ C, C = cmpL p1 p2 := ⟨_, rfl⟩
  have HC : Hid (C = cmpL p1 p2 ∧ (A < B ↔ C < 0) ∧ (A = B ↔ C = 0)) := by
    have h := rk_ord HO1.out HB2.out.2 HL.out
    rw [← hC] at h
    have e1 := HP.out.1
    have e2 := HB2.out.1
    exact ⟨hC, by rw [← h.1]; omega, by rw [← h.2]; omega⟩
  clear hC
  rcases Int.lt_trichotomy A B with hAB | hAB | hAB
  · have t1 : decide (A < B) = true := by exact decide_eq_true (by omega)
    have t2 : decide (C < 0) = true := by exact decide_eq_true (HC.out.2.1.1 (by omega))
    have t3 : (A == B) = false := by rw [beq_eq_false_iff_ne]; omega
    have t4 : (C == 0) = false := by rw [beq_eq_false_iff_ne]; exact fun h => by have := HC.out.2.2.2 h; omega
    clear hAB
    go_wp2_with fail
    refine (cmp_any a1 c1 p1 a2 c2 p2 HL.out x1 _ _ ((HI1.out.1.below hb24.out).mono hb24.out.size).1 ((HI2.out.1.below hb24.out).mono hb24.out.size).1).mono ?_
    rintro e v8 ⟨rfl, hB⟩
    have z25 : v7.heap.size ≤ v8.heap.size := hB.size
    have hb26 : Hid (Below w.heap.size w v8) := hb24.out.trans (hB.mono hb24.out.size)
    clear hB hb24
    rw [← HC.out.1]
    go_wp2_with fail
    refine (cmp_any a1 c1 p1 a2 c2 p2 HL.out x1 _ _ ((HI1.out.1.below hb26.out).mono hb26.out.size).1 ((HI2.out.1.below hb26.out).mono hb26.out.size).1).mono ?_
    rintro e v9 ⟨rfl, hB⟩
    have z27 : v8.heap.size ≤ v9.heap.size := hB.size
    have hb28 : Hid (Below w.heap.size w v9) := hb26.out.trans (hB.mono hb26.out.size)
    clear hB hb26
    rw [← HC.out.1]
    go_wp2_with fail
    go_ret
    exact ⟨rfl, hb28.out⟩
  · have t1 : decide (A < B) = false := by exact decide_eq_false (by omega)
    have t2 : decide (C < 0) = false := by exact decide_eq_false (fun h => by have := HC.out.2.1.2 h; omega)
    have t3 : (A == B) = true := by rw [beq_iff_eq]; omega
    have t4 : (C == 0) = true := by rw [beq_iff_eq]; exact HC.out.2.2.1 (by omega)
    clear hAB
    go_wp2_with fail
    refine (cmp_any a1 c1 p1 a2 c2 p2 HL.out x1 _ _ ((HI1.out.1.below hb24.out).mono hb24.out.size).1 ((HI2.out.1.below hb24.out).mono hb24.out.size).1).mono ?_
    rintro e v8 ⟨rfl, hB⟩
    have z25 : v7.heap.size ≤ v8.heap.size := hB.size
    have hb26 : Hid (Below w.heap.size w v8) := hb24.out.trans (hB.mono hb24.out.size)
    clear hB hb24
    rw [← HC.out.1]
    go_wp2_with fail
    refine (cmp_any a1 c1 p1 a2 c2 p2 HL.out x1 _ _ ((HI1.out.1.below hb26.out).mono hb26.out.size).1 ((HI2.out.1.below hb26.out).mono hb26.out.size).1).mono ?_
    rintro e v9 ⟨rfl, hB⟩
    have z27 : v8.heap.size ≤ v9.heap.size := hB.size
    have hb28 : Hid (Below w.heap.size w v9) := hb26.out.trans (hB.mono hb26.out.size)
    clear hB hb26
    rw [← HC.out.1]
    go_wp2_with fail
    go_ret
    exact ⟨rfl, hb28.out⟩
  · have t1 : decide (A < B) = false := by exact decide_eq_false (by omega)
    have t2 : decide (C < 0) = false := by exact decide_eq_false (fun h => by have := HC.out.2.1.2 h; omega)
    have t3 : (A == B) = false := by rw [beq_eq_false_iff_ne]; omega
    have t4 : (C == 0) = false := by rw [beq_eq_false_iff_ne]; exact fun h => by have := HC.out.2.2.2 h; omega
    clear hAB
    go_wp2_with fail
    refine (cmp_any a1 c1 p1 a2 c2 p2 HL.out x1 _ _ ((HI1.out.1.below hb24.out).mono hb24.out.size).1 ((HI2.out.1.below hb24.out).mono hb24.out.size).1).mono ?_
    rintro e v8 ⟨rfl, hB⟩
    have z25 : v7.heap.size ≤ v8.heap.size := hB.size
    have hb26 : Hid (Below w.heap.size w v8) := hb24.out.trans (hB.mono hb24.out.size)
    clear hB hb24
    rw [← HC.out.1]
    go_wp2_with fail
    refine (cmp_any a1 c1 p1 a2 c2 p2 HL.out x1 _ _ ((HI1.out.1.below hb26.out).mono hb26.out.size).1 ((HI2.out.1.below hb26.out).mono hb26.out.size).1).mono ?_
    rintro e v9 ⟨rfl, hB⟩
    have z27 : v8.heap.size ≤ v9.heap.size := hB.size
    have hb28 : Hid (Below w.heap.size w v9) := hb26.out.trans (hB.mono hb26.out.size)
    clear hB hb26
    rw [← HC.out.1]
    go_wp2_with fail
    go_ret
    exact ⟨rfl, hb28.out⟩
theorem plehmer_walk (HR : CPr) (HU : CPu) (a1 : Option Addr) (c1 : Nat) (p1 : List Int) (x1 : p1.length ≤ 9223372036854775807) (T1 : ∀ j, In64 (nth p1 j)) (a2 : Option Addr) (c2 : Nat) (p2 : List Int) (x2 : p2.length ≤ 9223372036854775807) (T2 : ∀ j, In64 (nth p2 j)) (n k : Int) (hn64 : In64 n) (hk64 : In64 k) (w : World) (w1 : IsC w.heap.size w a1 p1 c1) (w2 : IsC w.heap.size w a2 p2 c2) :
    Calls Try.prog 4 #[.slice a1 p1.length c1, .slice a2 p2.length c2, .int .i64 n, .int .i64 k] w fun e w' => e = .returned (.bool true) ∧ Below w.heap.size w w' := by
  by_cases h1 : urE n k = 0
  · exact lehmer_ok HR HU a1 c1 p1 x1 T1 a2 c2 p2 x2 T2 n k hn64 hk64 w w1 w2 h1
  · exact lehmer_no HR HU a1 c1 p1 x1 T1 a2 c2 p2 x2 T2 n k hn64 hk64 w w1 w2 h1
end Go.Proofs.Ytcblakcaoecgpab
