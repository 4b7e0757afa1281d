/-
  The walk of the statement MatrixTimes, given what the program tells.
-/
import Derived.Test.YtjaabemlpiafaacMtf
import Derived.Test.YtjaabemlpiafaacTurnw
import Derived.Test.YtjaabemlpiafaacMidc
import Derived.Test.YtjaabemlpiafaacSarr
namespace Go.Proofs.Ytjaabemlpiafaac
open Go.RowKit
set_option linter.unusedVariables false

theorem shp14 {w v : World} {b o n sc : Nat} (h : IsC w.heap.size w (some ⟨b, o, none⟩) [(n : Int), (n : Int)] sc) (hB : Below w.heap.size w v) : b < w.heap.size ∧ v.cell? ⟨b, o, none⟩ = some (.int .i64 (n : Int)) := by
  obtain ⟨b', o', e, hb, hc⟩ := (h.1.below hB).at (q := 0) (by simp)
  cases e
  have h0 := hc 0 (by simp)
  rw [Nat.add_zero] at h0
  exact ⟨hb, h0⟩
theorem opn14 {w : World} {sa : Option Addr} {n sc : Nat} (h : IsC w.heap.size w sa [(n : Int), (n : Int)] sc) : ∃ b o, sa = some ⟨b, o, none⟩ := by
  obtain ⟨b, o, e, _, _⟩ := h.1.at (q := 0) (by simp)
  exact ⟨b, o, e⟩
theorem short14 {n : Nat} (hn : n ≤ 6) {D : List Int} (h : D.length = n * n) : D.length ≤ 9223372036854775807 := by
  have : n * n ≤ 6 * 6 := Nat.mul_le_mul hn hn
  omega
set_option maxRecDepth 100000 in
set_option maxHeartbeats 4000000 in
theorem tims_a (HNi : CNi) (c1 : Bool) (sa1 : Option Addr) (sc1 : Nat) (sz1 : List Int) (da1 : Option Addr) (dc1 : Nat) (dz1 : List Int) (j k : Int) (hj : In64 j) (hk : In64 k) (w : World) (w8 : IsArrD w sa1 sz1 sc1 da1 dz1 dc1) (G1 : Hid (¬ SqP c1 sz1 dz1)) :
    Calls Try.prog 3 #[.agg #[.bool c1, .slice sa1 sz1.length sc1, .slice da1 dz1.length dc1], .int .i64 j, .int .i64 k] w fun e w' => e = .returned (.bool true) ∧ Below w.heap.size w w' := by
  have HI1 : Hid (IsC w.heap.size w sa1 sz1 sc1 ∧ IsC w.heap.size w da1 dz1 dc1) := ⟨w8.2.2.1, w8.2.2.2.1⟩
  have n1 := Abx.new w (.bool c1) (.slice sa1 sz1.length sc1) (.slice da1 dz1.length dc1)
  go_enter Try.func3, Try.ntmps3
  go_wp2_with fail
  obtain ⟨wo2, hwo2⟩ : ∃ wo2, wo2 = (w.alloc (.cells #[.bool c1, .slice sa1 sz1.length sc1, .slice da1 dz1.length dc1] 24)) := ⟨_, rfl⟩
  rw [← hwo2]
  have z3 : w.heap.size + 1 ≤ wo2.heap.size := by rw [hwo2]; simp only [World.size_alloc]; omega
  have B4 : Hid (Abx wo2 (w.heap.size) (.bool c1) (.slice sa1 sz1.length sc1) (.slice da1 dz1.length dc1)) := by rw [hwo2]; exact n1
  have hb5 : Hid (Below w.heap.size w wo2) := by rw [hwo2]; exact ((Below.refl w.heap.size w).alloc (by omega) (.cells #[.bool c1, .slice sa1 sz1.length sc1, .slice da1 dz1.length dc1] 24))
  have zwo2 : w.heap.size ≤ wo2.heap.size := hb5.out.size
  clear hwo2 n1
  refine (fact14_any _).mono ?_
  rintro e v1 ⟨rfl, hB⟩
  have z6 : wo2.heap.size ≤ v1.heap.size := hB.size
  have B7 : Hid (Abx v1 (w.heap.size) (.bool c1) (.slice sa1 sz1.length sc1) (.slice da1 dz1.length dc1)) := B4.out.go hB
  have hb8 : Hid (Below w.heap.size w v1) := hb5.out.trans (hB.mono hb5.out.size)
  clear hB hb5 B4
  have l9 := (B7.out).c0
  have l10 := (B7.out).c1
  have l11 := (B7.out).c2
  go_wp2_with fail
  clear l9 l10 l11
  refine (square_no c1 sa1 sc1 sz1 da1 dc1 dz1 _ ((HI1.out.1.below hb8.out).mono hb8.out.size).1 G1.out).mono ?_
  rintro e v2 ⟨rfl, hB⟩
  have z12 : v1.heap.size ≤ v2.heap.size := hB.size
  have B13 : Hid (Abx v2 (w.heap.size) (.bool c1) (.slice sa1 sz1.length sc1) (.slice da1 dz1.length dc1)) := B7.out.go hB
  have hb14 : Hid (Below w.heap.size w v2) := hb8.out.trans (hB.mono hb8.out.size)
  clear hB hb8 B7
  go_wp2_with fail
  go_ret
  exact ⟨rfl, hb14.out⟩
set_option maxRecDepth 100000 in
set_option maxHeartbeats 4000000 in
theorem tims_j (n : Nat) (hn : n ≤ 6) (b1 o1 sc1 : Nat) (da1 : Option Addr) (dc1 : Nat) (dz1 : List Int) (HL1 : Hid (dz1.length = n * n)) (w : World) (HI1 : Hid (IsC w.heap.size w (some ⟨b1, o1, none⟩) [(n : Int), (n : Int)] sc1 ∧ IsC w.heap.size w da1 dz1 dc1 ∧ ∀ j, In64 (nth dz1 j))) (j k : Int) (hj : ¬ (0 ≤ j ∧ j ≤ 1099511627776)) :
    Calls Try.prog 3 #[.agg #[.bool false, .slice (some ⟨b1, o1, none⟩) 2 sc1, .slice da1 dz1.length dc1], .int .i64 j, .int .i64 k] w fun e w' => e = .returned (.bool true) ∧ Below w.heap.size w w' := by
  have n1 := Abx.new w (.bool false) (.slice (some ⟨b1, o1, none⟩) 2 sc1) (.slice da1 dz1.length dc1)
  go_enter Try.func3, Try.ntmps3
  go_wp2_with fail
  obtain ⟨wo2, hwo2⟩ : ∃ wo2, wo2 = (w.alloc (.cells #[.bool false, .slice (some ⟨b1, o1, none⟩) 2 sc1, .slice da1 dz1.length dc1] 24)) := ⟨_, rfl⟩
  rw [← hwo2]
  have z3 : w.heap.size + 1 ≤ wo2.heap.size := by rw [hwo2]; simp only [World.size_alloc]; omega
  have B4 : Hid (Abx wo2 (w.heap.size) (.bool false) (.slice (some ⟨b1, o1, none⟩) 2 sc1) (.slice da1 dz1.length dc1)) := by rw [hwo2]; exact n1
  have hb5 : Hid (Below w.heap.size w wo2) := by rw [hwo2]; exact ((Below.refl w.heap.size w).alloc (by omega) (.cells #[.bool false, .slice (some ⟨b1, o1, none⟩) 2 sc1, .slice da1 dz1.length dc1] 24))
  have zwo2 : w.heap.size ≤ wo2.heap.size := hb5.out.size
  clear hwo2 n1
  refine (fact14_any _).mono ?_
  rintro e v1 ⟨rfl, hB⟩
  have z6 : wo2.heap.size ≤ v1.heap.size := hB.size
  have B7 : Hid (Abx v1 (w.heap.size) (.bool false) (.slice (some ⟨b1, o1, none⟩) 2 sc1) (.slice da1 dz1.length dc1)) := B4.out.go hB
  have hb8 : Hid (Below w.heap.size w v1) := hb5.out.trans (hB.mono hb5.out.size)
  clear hB hb5 B4
  have l9 := (B7.out).c0
  have l10 := (B7.out).c1
  have l11 := (B7.out).c2
  go_wp2_with fail
  clear l9 l10 l11
  refine (square_yes n hn (some ⟨b1, o1, none⟩) sc1 da1 dc1 dz1 dz1.length rfl HL1.out _ ((HI1.out.1.below hb8.out).mono hb8.out.size).1).mono ?_
  rintro e v2 ⟨rfl, hB⟩
  have z12 : v1.heap.size ≤ v2.heap.size := hB.size
  have B13 : Hid (Abx v2 (w.heap.size) (.bool false) (.slice (some ⟨b1, o1, none⟩) 2 sc1) (.slice da1 dz1.length dc1)) := B7.out.go hB
  have hb14 : Hid (Below w.heap.size w v2) := hb8.out.trans (hB.mono hb8.out.size)
  clear hB hb8 B7
  go_wp2_with fail
  refine (wi_no j 0 1099511627776 hj _).mono ?_
  rintro e v3 ⟨rfl, hB⟩
  have z15 : v2.heap.size ≤ v3.heap.size := hB.size
  have B16 : Hid (Abx v3 (w.heap.size) (.bool false) (.slice (some ⟨b1, o1, none⟩) 2 sc1) (.slice da1 dz1.length dc1)) := B13.out.go hB
  have hb17 : Hid (Below w.heap.size w v3) := hb14.out.trans (hB.mono hb14.out.size)
  clear hB hb14 B13
  go_wp2_with fail
  go_ret
  exact ⟨rfl, hb17.out⟩
set_option maxRecDepth 100000 in
set_option maxHeartbeats 4000000 in
theorem tims_k (n : Nat) (hn : n ≤ 6) (b1 o1 sc1 : Nat) (da1 : Option Addr) (dc1 : Nat) (dz1 : List Int) (HL1 : Hid (dz1.length = n * n)) (w : World) (HI1 : Hid (IsC w.heap.size w (some ⟨b1, o1, none⟩) [(n : Int), (n : Int)] sc1 ∧ IsC w.heap.size w da1 dz1 dc1 ∧ ∀ j, In64 (nth dz1 j))) (j k : Int) (hj : Hid (0 ≤ j ∧ j ≤ 1099511627776)) (hk : ¬ (0 ≤ k ∧ k ≤ 1099511627776)) :
    Calls Try.prog 3 #[.agg #[.bool false, .slice (some ⟨b1, o1, none⟩) 2 sc1, .slice da1 dz1.length dc1], .int .i64 j, .int .i64 k] w fun e w' => e = .returned (.bool true) ∧ Below w.heap.size w w' := by
  have n1 := Abx.new w (.bool false) (.slice (some ⟨b1, o1, none⟩) 2 sc1) (.slice da1 dz1.length dc1)
  go_enter Try.func3, Try.ntmps3
  go_wp2_with fail
  obtain ⟨wo2, hwo2⟩ : ∃ wo2, wo2 = (w.alloc (.cells #[.bool false, .slice (some ⟨b1, o1, none⟩) 2 sc1, .slice da1 dz1.length dc1] 24)) := ⟨_, rfl⟩
  rw [← hwo2]
  have z3 : w.heap.size + 1 ≤ wo2.heap.size := by rw [hwo2]; simp only [World.size_alloc]; omega
  have B4 : Hid (Abx wo2 (w.heap.size) (.bool false) (.slice (some ⟨b1, o1, none⟩) 2 sc1) (.slice da1 dz1.length dc1)) := by rw [hwo2]; exact n1
  have hb5 : Hid (Below w.heap.size w wo2) := by rw [hwo2]; exact ((Below.refl w.heap.size w).alloc (by omega) (.cells #[.bool false, .slice (some ⟨b1, o1, none⟩) 2 sc1, .slice da1 dz1.length dc1] 24))
  have zwo2 : w.heap.size ≤ wo2.heap.size := hb5.out.size
  clear hwo2 n1
  refine (fact14_any _).mono ?_
  rintro e v1 ⟨rfl, hB⟩
  have z6 : wo2.heap.size ≤ v1.heap.size := hB.size
  have B7 : Hid (Abx v1 (w.heap.size) (.bool false) (.slice (some ⟨b1, o1, none⟩) 2 sc1) (.slice da1 dz1.length dc1)) := B4.out.go hB
  have hb8 : Hid (Below w.heap.size w v1) := hb5.out.trans (hB.mono hb5.out.size)
  clear hB hb5 B4
  have l9 := (B7.out).c0
  have l10 := (B7.out).c1
  have l11 := (B7.out).c2
  go_wp2_with fail
  clear l9 l10 l11
  refine (square_yes n hn (some ⟨b1, o1, none⟩) sc1 da1 dc1 dz1 dz1.length rfl HL1.out _ ((HI1.out.1.below hb8.out).mono hb8.out.size).1).mono ?_
  rintro e v2 ⟨rfl, hB⟩
  have z12 : v1.heap.size ≤ v2.heap.size := hB.size
  have B13 : Hid (Abx v2 (w.heap.size) (.bool false) (.slice (some ⟨b1, o1, none⟩) 2 sc1) (.slice da1 dz1.length dc1)) := B7.out.go hB
  have hb14 : Hid (Below w.heap.size w v2) := hb8.out.trans (hB.mono hb8.out.size)
  clear hB hb8 B7
  go_wp2_with fail
  refine (wi_yes j 0 1099511627776 hj.out.1 hj.out.2 _).mono ?_
  rintro e v3 ⟨rfl, hB⟩
  have z15 : v2.heap.size ≤ v3.heap.size := hB.size
  have B16 : Hid (Abx v3 (w.heap.size) (.bool false) (.slice (some ⟨b1, o1, none⟩) 2 sc1) (.slice da1 dz1.length dc1)) := B13.out.go hB
  have hb17 : Hid (Below w.heap.size w v3) := hb14.out.trans (hB.mono hb14.out.size)
  clear hB hb14 B13
  go_wp2_with fail
  refine (wi_no k 0 1099511627776 hk _).mono ?_
  rintro e v4 ⟨rfl, hB⟩
  have z18 : v3.heap.size ≤ v4.heap.size := hB.size
  have B19 : Hid (Abx v4 (w.heap.size) (.bool false) (.slice (some ⟨b1, o1, none⟩) 2 sc1) (.slice da1 dz1.length dc1)) := B16.out.go hB
  have hb20 : Hid (Below w.heap.size w v4) := hb17.out.trans (hB.mono hb17.out.size)
  clear hB hb17 B16
  go_wp2_with fail
  go_ret
  exact ⟨rfl, hb20.out⟩
set_option maxRecDepth 100000 in
set_option maxHeartbeats 4000000 in
theorem tims_ok (HNi : CNi) (n : Nat) (hn : n ≤ 6) (b1 o1 sc1 : Nat) (da1 : Option Addr) (dc1 : Nat) (dz1 : List Int) (HL1 : Hid (dz1.length = n * n)) (w : World) (HI1 : Hid (IsC w.heap.size w (some ⟨b1, o1, none⟩) [(n : Int), (n : Int)] sc1 ∧ IsC w.heap.size w da1 dz1 dc1 ∧ ∀ j, In64 (nth dz1 j))) (j k : Nat) (hj : j ≤ 1099511627776) (hk : k ≤ 1099511627776) :
    Calls Try.prog 3 #[.agg #[.bool false, .slice (some ⟨b1, o1, none⟩) 2 sc1, .slice da1 dz1.length dc1], .int .i64 (j : Nat), .int .i64 (k : Nat)] w fun e w' => e = .returned (.bool true) ∧ Below w.heap.size w w' := by
  obtain ⟨jk, hjk⟩ : ∃ jk, jk = j + k := ⟨_, rfl⟩
  have hadd : (j : Int) + (k : Int) = (jk : Int) := by omega
  have HJK : Hid (jk = j + k) := hjk
  clear hjk
  have n1 := Abx.new w (.bool false) (.slice (some ⟨b1, o1, none⟩) 2 sc1) (.slice da1 dz1.length dc1)
  go_enter Try.func3, Try.ntmps3
  go_wp2_with fail
  obtain ⟨wo2, hwo2⟩ : ∃ wo2, wo2 = (w.alloc (.cells #[.bool false, .slice (some ⟨b1, o1, none⟩) 2 sc1, .slice da1 dz1.length dc1] 24)) := ⟨_, rfl⟩
  rw [← hwo2]
  have z3 : w.heap.size + 1 ≤ wo2.heap.size := by rw [hwo2]; simp only [World.size_alloc]; omega
  have B4 : Hid (Abx wo2 (w.heap.size) (.bool false) (.slice (some ⟨b1, o1, none⟩) 2 sc1) (.slice da1 dz1.length dc1)) := by rw [hwo2]; exact n1
  have hb5 : Hid (Below w.heap.size w wo2) := by rw [hwo2]; exact ((Below.refl w.heap.size w).alloc (by omega) (.cells #[.bool false, .slice (some ⟨b1, o1, none⟩) 2 sc1, .slice da1 dz1.length dc1] 24))
  have zwo2 : w.heap.size ≤ wo2.heap.size := hb5.out.size
  clear hwo2 n1
  refine (fact14_any _).mono ?_
  rintro e v1 ⟨rfl, hB⟩
  have z6 : wo2.heap.size ≤ v1.heap.size := hB.size
  have B7 : Hid (Abx v1 (w.heap.size) (.bool false) (.slice (some ⟨b1, o1, none⟩) 2 sc1) (.slice da1 dz1.length dc1)) := B4.out.go hB
  have hb8 : Hid (Below w.heap.size w v1) := hb5.out.trans (hB.mono hb5.out.size)
  clear hB hb5 B4
  have l9 := (B7.out).c0
  have l10 := (B7.out).c1
  have l11 := (B7.out).c2
  go_wp2_with fail
  clear l9 l10 l11
  refine (square_yes n hn (some ⟨b1, o1, none⟩) sc1 da1 dc1 dz1 dz1.length rfl HL1.out _ ((HI1.out.1.below hb8.out).mono hb8.out.size).1).mono ?_
  rintro e v2 ⟨rfl, hB⟩
  have z12 : v1.heap.size ≤ v2.heap.size := hB.size
  have B13 : Hid (Abx v2 (w.heap.size) (.bool false) (.slice (some ⟨b1, o1, none⟩) 2 sc1) (.slice da1 dz1.length dc1)) := B7.out.go hB
  have hb14 : Hid (Below w.heap.size w v2) := hb8.out.trans (hB.mono hb8.out.size)
  clear hB hb8 B7
  go_wp2_with fail
  refine (wi_yes (j : Int) 0 1099511627776 (by omega) (by omega) _).mono ?_
  rintro e v3 ⟨rfl, hB⟩
  have z15 : v2.heap.size ≤ v3.heap.size := hB.size
  have B16 : Hid (Abx v3 (w.heap.size) (.bool false) (.slice (some ⟨b1, o1, none⟩) 2 sc1) (.slice da1 dz1.length dc1)) := B13.out.go hB
  have hb17 : Hid (Below w.heap.size w v3) := hb14.out.trans (hB.mono hb14.out.size)
  clear hB hb14 B13
  go_wp2_with fail
  refine (wi_yes (k : Int) 0 1099511627776 (by omega) (by omega) _).mono ?_
  rintro e v4 ⟨rfl, hB⟩
  have z18 : v3.heap.size ≤ v4.heap.size := hB.size
  have B19 : Hid (Abx v4 (w.heap.size) (.bool false) (.slice (some ⟨b1, o1, none⟩) 2 sc1) (.slice da1 dz1.length dc1)) := B16.out.go hB
  have hb20 : Hid (Below w.heap.size w v4) := hb17.out.trans (hB.mono hb17.out.size)
  clear hB hb17 B16
  have l21 := (B19.out).c0
  have l22 := (B19.out).c1
  have l23 := (B19.out).c2
  go_wp2_with fail
  clear l21 l22 l23
  refine (mpow_ok n hn (some ⟨b1, o1, none⟩) sc1 da1 dc1 dz1 dz1.length rfl HL1.out _ ((HI1.out.1.below hb20.out).mono hb20.out.size).1 ((HI1.out.2.1.below hb20.out).mono hb20.out.size).1 HI1.out.2.2 j (by omega)).mono ?_
  rintro e v5 ⟨xa1, xc1, ya1, yc1, rfl, hX1, hY1, hB⟩
  have z24 : v4.heap.size ≤ v5.heap.size := hB.size
  have B25 : Hid (Abx v5 (w.heap.size) (.bool false) (.slice (some ⟨b1, o1, none⟩) 2 sc1) (.slice da1 dz1.length dc1)) := B19.out.go hB
  have hb26 : Hid (Below w.heap.size w v5) := hb20.out.trans (hB.mono hb20.out.size)
  have L27 : Hid (MidC (v4.heap.size) (v5.heap.size) v5 (xa1) ([(n : Int), (n : Int)]) (xc1)) := hX1.midc
  have L28 : Hid (MidC (v4.heap.size) (v5.heap.size) v5 (ya1) (cls n (pwg n (rdg n dz1) j)) (yc1)) := hY1.midc
  clear hB hb20 B19 hX1 hY1
  have n29 := Abx.new v5 (.bool false) (.slice (xa1) 2 (xc1)) (.slice (ya1) (cls n (pwg n (rdg n dz1) j)).length (yc1))
  have l30 := ((B25.out.al (.cells #[.bool false, .slice (xa1) 2 (xc1), .slice (ya1) (cls n (pwg n (rdg n dz1) j)).length (yc1)] 24))).c0
  have l31 := ((B25.out.al (.cells #[.bool false, .slice (xa1) 2 (xc1), .slice (ya1) (cls n (pwg n (rdg n dz1) j)).length (yc1)] 24))).c1
  have l32 := ((B25.out.al (.cells #[.bool false, .slice (xa1) 2 (xc1), .slice (ya1) (cls n (pwg n (rdg n dz1) j)).length (yc1)] 24))).c2
  go_wp2_with fail
  obtain ⟨wo33, hwo33⟩ : ∃ wo33, wo33 = (v5.alloc (.cells #[.bool false, .slice (xa1) 2 (xc1), .slice (ya1) (cls n (pwg n (rdg n dz1) j)).length (yc1)] 24)) := ⟨_, rfl⟩
  rw [← hwo33]
  have z34 : v5.heap.size + 1 ≤ wo33.heap.size := by rw [hwo33]; simp only [World.size_alloc]; omega
  have B35 : Hid (Abx wo33 (w.heap.size) (.bool false) (.slice (some ⟨b1, o1, none⟩) 2 sc1) (.slice da1 dz1.length dc1)) := by rw [hwo33]; exact (B25.out.al (.cells #[.bool false, .slice (xa1) 2 (xc1), .slice (ya1) (cls n (pwg n (rdg n dz1) j)).length (yc1)] 24))
  have B36 : Hid (Abx wo33 (v5.heap.size) (.bool false) (.slice (xa1) 2 (xc1)) (.slice (ya1) (cls n (pwg n (rdg n dz1) j)).length (yc1))) := by rw [hwo33]; exact n29
  have L37 : Hid (MidC (v4.heap.size) (v5.heap.size) wo33 (xa1) ([(n : Int), (n : Int)]) (xc1)) := by rw [hwo33]; exact (L27.out.al (by omega) (.cells #[.bool false, .slice (xa1) 2 (xc1), .slice (ya1) (cls n (pwg n (rdg n dz1) j)).length (yc1)] 24))
  have L38 : Hid (MidC (v4.heap.size) (v5.heap.size) wo33 (ya1) (cls n (pwg n (rdg n dz1) j)) (yc1)) := by rw [hwo33]; exact (L28.out.al (by omega) (.cells #[.bool false, .slice (xa1) 2 (xc1), .slice (ya1) (cls n (pwg n (rdg n dz1) j)).length (yc1)] 24))
  have hb39 : Hid (Below w.heap.size w wo33) := by rw [hwo33]; exact (hb26.out.alloc (by omega) (.cells #[.bool false, .slice (xa1) 2 (xc1), .slice (ya1) (cls n (pwg n (rdg n dz1) j)).length (yc1)] 24))
  have zwo33 : w.heap.size ≤ wo33.heap.size := hb39.out.size
  clear hwo33 n29 l30 l31 l32 hb26 B25 L27 L28
  refine (mpow_ok n hn (some ⟨b1, o1, none⟩) sc1 da1 dc1 dz1 dz1.length rfl HL1.out _ ((HI1.out.1.below hb39.out).mono hb39.out.size).1 ((HI1.out.2.1.below hb39.out).mono hb39.out.size).1 HI1.out.2.2 k (by omega)).mono ?_
  rintro e v6 ⟨xa2, xc2, ya2, yc2, rfl, hX2, hY2, hB⟩
  have z40 : wo33.heap.size ≤ v6.heap.size := hB.size
  have B41 : Hid (Abx v6 (w.heap.size) (.bool false) (.slice (some ⟨b1, o1, none⟩) 2 sc1) (.slice da1 dz1.length dc1)) := B35.out.go hB
  have B42 : Hid (Abx v6 (v5.heap.size) (.bool false) (.slice (xa1) 2 (xc1)) (.slice (ya1) (cls n (pwg n (rdg n dz1) j)).length (yc1))) := B36.out.go hB
  have L43 : Hid (MidC (v4.heap.size) (v5.heap.size) v6 (xa1) ([(n : Int), (n : Int)]) (xc1)) := L37.out.go (by omega) hB
  have L44 : Hid (MidC (v4.heap.size) (v5.heap.size) v6 (ya1) (cls n (pwg n (rdg n dz1) j)) (yc1)) := L38.out.go (by omega) hB
  have hb45 : Hid (Below w.heap.size w v6) := hb39.out.trans (hB.mono hb39.out.size)
  have L46 : Hid (MidC (wo33.heap.size) (v6.heap.size) v6 (xa2) ([(n : Int), (n : Int)]) (xc2)) := hX2.midc
  have L47 : Hid (MidC (wo33.heap.size) (v6.heap.size) v6 (ya2) (cls n (pwg n (rdg n dz1) k)) (yc2)) := hY2.midc
  clear hB hb39 B35 B36 L37 L38 hX2 hY2
  have n48 := Abx.new v6 (.bool false) (.slice (xa2) 2 (xc2)) (.slice (ya2) (cls n (pwg n (rdg n dz1) k)).length (yc2))
  have l49 := ((B42.out.al (.cells #[.bool false, .slice (xa2) 2 (xc2), .slice (ya2) (cls n (pwg n (rdg n dz1) k)).length (yc2)] 24))).c0
  have l50 := ((B42.out.al (.cells #[.bool false, .slice (xa2) 2 (xc2), .slice (ya2) (cls n (pwg n (rdg n dz1) k)).length (yc2)] 24))).c1
  have l51 := ((B42.out.al (.cells #[.bool false, .slice (xa2) 2 (xc2), .slice (ya2) (cls n (pwg n (rdg n dz1) k)).length (yc2)] 24))).c2
  have l52 := (n48).c0
  have l53 := (n48).c1
  have l54 := (n48).c2
  go_wp2_with fail
  obtain ⟨wo55, hwo55⟩ : ∃ wo55, wo55 = (v6.alloc (.cells #[.bool false, .slice (xa2) 2 (xc2), .slice (ya2) (cls n (pwg n (rdg n dz1) k)).length (yc2)] 24)) := ⟨_, rfl⟩
  rw [← hwo55]
  have z56 : v6.heap.size + 1 ≤ wo55.heap.size := by rw [hwo55]; simp only [World.size_alloc]; omega
  have B57 : Hid (Abx wo55 (w.heap.size) (.bool false) (.slice (some ⟨b1, o1, none⟩) 2 sc1) (.slice da1 dz1.length dc1)) := by rw [hwo55]; exact (B41.out.al (.cells #[.bool false, .slice (xa2) 2 (xc2), .slice (ya2) (cls n (pwg n (rdg n dz1) k)).length (yc2)] 24))
  have B58 : Hid (Abx wo55 (v5.heap.size) (.bool false) (.slice (xa1) 2 (xc1)) (.slice (ya1) (cls n (pwg n (rdg n dz1) j)).length (yc1))) := by rw [hwo55]; exact (B42.out.al (.cells #[.bool false, .slice (xa2) 2 (xc2), .slice (ya2) (cls n (pwg n (rdg n dz1) k)).length (yc2)] 24))
  have B59 : Hid (Abx wo55 (v6.heap.size) (.bool false) (.slice (xa2) 2 (xc2)) (.slice (ya2) (cls n (pwg n (rdg n dz1) k)).length (yc2))) := by rw [hwo55]; exact n48
  have L60 : Hid (MidC (v4.heap.size) (v5.heap.size) wo55 (xa1) ([(n : Int), (n : Int)]) (xc1)) := by rw [hwo55]; exact (L43.out.al (by omega) (.cells #[.bool false, .slice (xa2) 2 (xc2), .slice (ya2) (cls n (pwg n (rdg n dz1) k)).length (yc2)] 24))
  have L61 : Hid (MidC (v4.heap.size) (v5.heap.size) wo55 (ya1) (cls n (pwg n (rdg n dz1) j)) (yc1)) := by rw [hwo55]; exact (L44.out.al (by omega) (.cells #[.bool false, .slice (xa2) 2 (xc2), .slice (ya2) (cls n (pwg n (rdg n dz1) k)).length (yc2)] 24))
  have L62 : Hid (MidC (wo33.heap.size) (v6.heap.size) wo55 (xa2) ([(n : Int), (n : Int)]) (xc2)) := by rw [hwo55]; exact (L46.out.al (by omega) (.cells #[.bool false, .slice (xa2) 2 (xc2), .slice (ya2) (cls n (pwg n (rdg n dz1) k)).length (yc2)] 24))
  have L63 : Hid (MidC (wo33.heap.size) (v6.heap.size) wo55 (ya2) (cls n (pwg n (rdg n dz1) k)) (yc2)) := by rw [hwo55]; exact (L47.out.al (by omega) (.cells #[.bool false, .slice (xa2) 2 (xc2), .slice (ya2) (cls n (pwg n (rdg n dz1) k)).length (yc2)] 24))
  have hb64 : Hid (Below w.heap.size w wo55) := by rw [hwo55]; exact (hb45.out.alloc (by omega) (.cells #[.bool false, .slice (xa2) 2 (xc2), .slice (ya2) (cls n (pwg n (rdg n dz1) k)).length (yc2)] 24))
  have zwo55 : w.heap.size ≤ wo55.heap.size := hb64.out.size
  clear hwo55 n48 l49 l50 l51 l52 l53 l54 hb45 B41 B42 L43 L44 L46 L47
  refine (minner_ok HNi n hn (xa1) (xc1) (ya1) (yc1) (cls n (pwg n (rdg n dz1) j)) (cls n (pwg n (rdg n dz1) j)).length rfl (cls_len n _) (xa2) (xc2) (ya2) (yc2) (cls n (pwg n (rdg n dz1) k)) (cls n (pwg n (rdg n dz1) k)).length rfl (cls_len n _) _ (L60.out.is (by omega)) (L61.out.is (by omega)).1 (pwg_64 n (rdg n dz1) j) (L62.out.is (by omega)) (L63.out.is (by omega)).1 (pwg_64 n (rdg n dz1) k)).mono ?_
  rintro e v7 ⟨xa3, xc3, ya3, yc3, rfl, hX3, hY3, hB⟩
  have z65 : wo55.heap.size ≤ v7.heap.size := hB.size
  have B66 : Hid (Abx v7 (w.heap.size) (.bool false) (.slice (some ⟨b1, o1, none⟩) 2 sc1) (.slice da1 dz1.length dc1)) := B57.out.go hB
  have B67 : Hid (Abx v7 (v5.heap.size) (.bool false) (.slice (xa1) 2 (xc1)) (.slice (ya1) (cls n (pwg n (rdg n dz1) j)).length (yc1))) := B58.out.go hB
  have B68 : Hid (Abx v7 (v6.heap.size) (.bool false) (.slice (xa2) 2 (xc2)) (.slice (ya2) (cls n (pwg n (rdg n dz1) k)).length (yc2))) := B59.out.go hB
  have L69 : Hid (MidC (v4.heap.size) (v5.heap.size) v7 (xa1) ([(n : Int), (n : Int)]) (xc1)) := L60.out.go (by omega) hB
  have L70 : Hid (MidC (v4.heap.size) (v5.heap.size) v7 (ya1) (cls n (pwg n (rdg n dz1) j)) (yc1)) := L61.out.go (by omega) hB
  have L71 : Hid (MidC (wo33.heap.size) (v6.heap.size) v7 (xa2) ([(n : Int), (n : Int)]) (xc2)) := L62.out.go (by omega) hB
  have L72 : Hid (MidC (wo33.heap.size) (v6.heap.size) v7 (ya2) (cls n (pwg n (rdg n dz1) k)) (yc2)) := L63.out.go (by omega) hB
  have hb73 : Hid (Below w.heap.size w v7) := hb64.out.trans (hB.mono hb64.out.size)
  have L74 : Hid (MidC (wo55.heap.size) (v7.heap.size) v7 (xa3) ([(n : Int), (n : Int)]) (xc3)) := hX3.midc
  have L75 : Hid (MidC (wo55.heap.size) (v7.heap.size) v7 (ya3) (mmL n (cls n (pwg n (rdg n dz1) j)) (cls n (pwg n (rdg n dz1) k))) (yc3)) := hY3.midc
  clear hB hb64 B57 B58 B59 L60 L61 L62 L63 hX3 hY3
  have n76 := Abx.new v7 (.bool false) (.slice (xa3) 2 (xc3)) (.slice (ya3) (mmL n (cls n (pwg n (rdg n dz1) j)) (cls n (pwg n (rdg n dz1) k))).length (yc3))
  have l77 := ((B66.out.al (.cells #[.bool false, .slice (xa3) 2 (xc3), .slice (ya3) (mmL n (cls n (pwg n (rdg n dz1) j)) (cls n (pwg n (rdg n dz1) k))).length (yc3)] 24))).c0
  have l78 := ((B66.out.al (.cells #[.bool false, .slice (xa3) 2 (xc3), .slice (ya3) (mmL n (cls n (pwg n (rdg n dz1) j)) (cls n (pwg n (rdg n dz1) k))).length (yc3)] 24))).c1
  have l79 := ((B66.out.al (.cells #[.bool false, .slice (xa3) 2 (xc3), .slice (ya3) (mmL n (cls n (pwg n (rdg n dz1) j)) (cls n (pwg n (rdg n dz1) k))).length (yc3)] 24))).c2
  go_wp2_with fail
  obtain ⟨wo80, hwo80⟩ : ∃ wo80, wo80 = (v7.alloc (.cells #[.bool false, .slice (xa3) 2 (xc3), .slice (ya3) (mmL n (cls n (pwg n (rdg n dz1) j)) (cls n (pwg n (rdg n dz1) k))).length (yc3)] 24)) := ⟨_, rfl⟩
  rw [← hwo80]
  have z81 : v7.heap.size + 1 ≤ wo80.heap.size := by rw [hwo80]; simp only [World.size_alloc]; omega
  have B82 : Hid (Abx wo80 (w.heap.size) (.bool false) (.slice (some ⟨b1, o1, none⟩) 2 sc1) (.slice da1 dz1.length dc1)) := by rw [hwo80]; exact (B66.out.al (.cells #[.bool false, .slice (xa3) 2 (xc3), .slice (ya3) (mmL n (cls n (pwg n (rdg n dz1) j)) (cls n (pwg n (rdg n dz1) k))).length (yc3)] 24))
  have B83 : Hid (Abx wo80 (v5.heap.size) (.bool false) (.slice (xa1) 2 (xc1)) (.slice (ya1) (cls n (pwg n (rdg n dz1) j)).length (yc1))) := by rw [hwo80]; exact (B67.out.al (.cells #[.bool false, .slice (xa3) 2 (xc3), .slice (ya3) (mmL n (cls n (pwg n (rdg n dz1) j)) (cls n (pwg n (rdg n dz1) k))).length (yc3)] 24))
  have B84 : Hid (Abx wo80 (v6.heap.size) (.bool false) (.slice (xa2) 2 (xc2)) (.slice (ya2) (cls n (pwg n (rdg n dz1) k)).length (yc2))) := by rw [hwo80]; exact (B68.out.al (.cells #[.bool false, .slice (xa3) 2 (xc3), .slice (ya3) (mmL n (cls n (pwg n (rdg n dz1) j)) (cls n (pwg n (rdg n dz1) k))).length (yc3)] 24))
  have B85 : Hid (Abx wo80 (v7.heap.size) (.bool false) (.slice (xa3) 2 (xc3)) (.slice (ya3) (mmL n (cls n (pwg n (rdg n dz1) j)) (cls n (pwg n (rdg n dz1) k))).length (yc3))) := by rw [hwo80]; exact n76
  have L86 : Hid (MidC (v4.heap.size) (v5.heap.size) wo80 (xa1) ([(n : Int), (n : Int)]) (xc1)) := by rw [hwo80]; exact (L69.out.al (by omega) (.cells #[.bool false, .slice (xa3) 2 (xc3), .slice (ya3) (mmL n (cls n (pwg n (rdg n dz1) j)) (cls n (pwg n (rdg n dz1) k))).length (yc3)] 24))
  have L87 : Hid (MidC (v4.heap.size) (v5.heap.size) wo80 (ya1) (cls n (pwg n (rdg n dz1) j)) (yc1)) := by rw [hwo80]; exact (L70.out.al (by omega) (.cells #[.bool false, .slice (xa3) 2 (xc3), .slice (ya3) (mmL n (cls n (pwg n (rdg n dz1) j)) (cls n (pwg n (rdg n dz1) k))).length (yc3)] 24))
  have L88 : Hid (MidC (wo33.heap.size) (v6.heap.size) wo80 (xa2) ([(n : Int), (n : Int)]) (xc2)) := by rw [hwo80]; exact (L71.out.al (by omega) (.cells #[.bool false, .slice (xa3) 2 (xc3), .slice (ya3) (mmL n (cls n (pwg n (rdg n dz1) j)) (cls n (pwg n (rdg n dz1) k))).length (yc3)] 24))
  have L89 : Hid (MidC (wo33.heap.size) (v6.heap.size) wo80 (ya2) (cls n (pwg n (rdg n dz1) k)) (yc2)) := by rw [hwo80]; exact (L72.out.al (by omega) (.cells #[.bool false, .slice (xa3) 2 (xc3), .slice (ya3) (mmL n (cls n (pwg n (rdg n dz1) j)) (cls n (pwg n (rdg n dz1) k))).length (yc3)] 24))
  have L90 : Hid (MidC (wo55.heap.size) (v7.heap.size) wo80 (xa3) ([(n : Int), (n : Int)]) (xc3)) := by rw [hwo80]; exact (L74.out.al (by omega) (.cells #[.bool false, .slice (xa3) 2 (xc3), .slice (ya3) (mmL n (cls n (pwg n (rdg n dz1) j)) (cls n (pwg n (rdg n dz1) k))).length (yc3)] 24))
  have L91 : Hid (MidC (wo55.heap.size) (v7.heap.size) wo80 (ya3) (mmL n (cls n (pwg n (rdg n dz1) j)) (cls n (pwg n (rdg n dz1) k))) (yc3)) := by rw [hwo80]; exact (L75.out.al (by omega) (.cells #[.bool false, .slice (xa3) 2 (xc3), .slice (ya3) (mmL n (cls n (pwg n (rdg n dz1) j)) (cls n (pwg n (rdg n dz1) k))).length (yc3)] 24))
  have hb92 : Hid (Below w.heap.size w wo80) := by rw [hwo80]; exact (hb73.out.alloc (by omega) (.cells #[.bool false, .slice (xa3) 2 (xc3), .slice (ya3) (mmL n (cls n (pwg n (rdg n dz1) j)) (cls n (pwg n (rdg n dz1) k))).length (yc3)] 24))
  have zwo80 : w.heap.size ≤ wo80.heap.size := hb92.out.size
  clear hwo80 n76 l77 l78 l79 hb73 B66 B67 B68 L69 L70 L71 L72 L74 L75
  refine (mpow_ok n hn (some ⟨b1, o1, none⟩) sc1 da1 dc1 dz1 dz1.length rfl HL1.out _ ((HI1.out.1.below hb92.out).mono hb92.out.size).1 ((HI1.out.2.1.below hb92.out).mono hb92.out.size).1 HI1.out.2.2 jk (by have := HJK.out; omega)).mono ?_
  rintro e v8 ⟨xa4, xc4, ya4, yc4, rfl, hX4, hY4, hB⟩
  have z93 : wo80.heap.size ≤ v8.heap.size := hB.size
  have B94 : Hid (Abx v8 (w.heap.size) (.bool false) (.slice (some ⟨b1, o1, none⟩) 2 sc1) (.slice da1 dz1.length dc1)) := B82.out.go hB
  have B95 : Hid (Abx v8 (v5.heap.size) (.bool false) (.slice (xa1) 2 (xc1)) (.slice (ya1) (cls n (pwg n (rdg n dz1) j)).length (yc1))) := B83.out.go hB
  have B96 : Hid (Abx v8 (v6.heap.size) (.bool false) (.slice (xa2) 2 (xc2)) (.slice (ya2) (cls n (pwg n (rdg n dz1) k)).length (yc2))) := B84.out.go hB
  have B97 : Hid (Abx v8 (v7.heap.size) (.bool false) (.slice (xa3) 2 (xc3)) (.slice (ya3) (mmL n (cls n (pwg n (rdg n dz1) j)) (cls n (pwg n (rdg n dz1) k))).length (yc3))) := B85.out.go hB
  have L98 : Hid (MidC (v4.heap.size) (v5.heap.size) v8 (xa1) ([(n : Int), (n : Int)]) (xc1)) := L86.out.go (by omega) hB
  have L99 : Hid (MidC (v4.heap.size) (v5.heap.size) v8 (ya1) (cls n (pwg n (rdg n dz1) j)) (yc1)) := L87.out.go (by omega) hB
  have L100 : Hid (MidC (wo33.heap.size) (v6.heap.size) v8 (xa2) ([(n : Int), (n : Int)]) (xc2)) := L88.out.go (by omega) hB
  have L101 : Hid (MidC (wo33.heap.size) (v6.heap.size) v8 (ya2) (cls n (pwg n (rdg n dz1) k)) (yc2)) := L89.out.go (by omega) hB
  have L102 : Hid (MidC (wo55.heap.size) (v7.heap.size) v8 (xa3) ([(n : Int), (n : Int)]) (xc3)) := L90.out.go (by omega) hB
  have L103 : Hid (MidC (wo55.heap.size) (v7.heap.size) v8 (ya3) (mmL n (cls n (pwg n (rdg n dz1) j)) (cls n (pwg n (rdg n dz1) k))) (yc3)) := L91.out.go (by omega) hB
  have hb104 : Hid (Below w.heap.size w v8) := hb92.out.trans (hB.mono hb92.out.size)
  have L105 : Hid (MidC (wo80.heap.size) (v8.heap.size) v8 (xa4) ([(n : Int), (n : Int)]) (xc4)) := hX4.midc
  have L106 : Hid (MidC (wo80.heap.size) (v8.heap.size) v8 (ya4) (cls n (pwg n (rdg n dz1) jk)) (yc4)) := hY4.midc
  clear hB hb92 B82 B83 B84 B85 L86 L87 L88 L89 L90 L91 hX4 hY4
  have n107 := Abx.new v8 (.bool false) (.slice (xa4) 2 (xc4)) (.slice (ya4) (cls n (pwg n (rdg n dz1) jk)).length (yc4))
  have l108 := ((B97.out.al (.cells #[.bool false, .slice (xa4) 2 (xc4), .slice (ya4) (cls n (pwg n (rdg n dz1) jk)).length (yc4)] 24))).c0
  have l109 := ((B97.out.al (.cells #[.bool false, .slice (xa4) 2 (xc4), .slice (ya4) (cls n (pwg n (rdg n dz1) jk)).length (yc4)] 24))).c1
  have l110 := ((B97.out.al (.cells #[.bool false, .slice (xa4) 2 (xc4), .slice (ya4) (cls n (pwg n (rdg n dz1) jk)).length (yc4)] 24))).c2
  have l111 := (n107).c0
  have l112 := (n107).c1
  have l113 := (n107).c2
  go_wp2_with fail
  obtain ⟨wo114, hwo114⟩ : ∃ wo114, wo114 = (v8.alloc (.cells #[.bool false, .slice (xa4) 2 (xc4), .slice (ya4) (cls n (pwg n (rdg n dz1) jk)).length (yc4)] 24)) := ⟨_, rfl⟩
  rw [← hwo114]
  have z115 : v8.heap.size + 1 ≤ wo114.heap.size := by rw [hwo114]; simp only [World.size_alloc]; omega
  have B116 : Hid (Abx wo114 (w.heap.size) (.bool false) (.slice (some ⟨b1, o1, none⟩) 2 sc1) (.slice da1 dz1.length dc1)) := by rw [hwo114]; exact (B94.out.al (.cells #[.bool false, .slice (xa4) 2 (xc4), .slice (ya4) (cls n (pwg n (rdg n dz1) jk)).length (yc4)] 24))
  have B117 : Hid (Abx wo114 (v5.heap.size) (.bool false) (.slice (xa1) 2 (xc1)) (.slice (ya1) (cls n (pwg n (rdg n dz1) j)).length (yc1))) := by rw [hwo114]; exact (B95.out.al (.cells #[.bool false, .slice (xa4) 2 (xc4), .slice (ya4) (cls n (pwg n (rdg n dz1) jk)).length (yc4)] 24))
  have B118 : Hid (Abx wo114 (v6.heap.size) (.bool false) (.slice (xa2) 2 (xc2)) (.slice (ya2) (cls n (pwg n (rdg n dz1) k)).length (yc2))) := by rw [hwo114]; exact (B96.out.al (.cells #[.bool false, .slice (xa4) 2 (xc4), .slice (ya4) (cls n (pwg n (rdg n dz1) jk)).length (yc4)] 24))
  have B119 : Hid (Abx wo114 (v7.heap.size) (.bool false) (.slice (xa3) 2 (xc3)) (.slice (ya3) (mmL n (cls n (pwg n (rdg n dz1) j)) (cls n (pwg n (rdg n dz1) k))).length (yc3))) := by rw [hwo114]; exact (B97.out.al (.cells #[.bool false, .slice (xa4) 2 (xc4), .slice (ya4) (cls n (pwg n (rdg n dz1) jk)).length (yc4)] 24))
  have B120 : Hid (Abx wo114 (v8.heap.size) (.bool false) (.slice (xa4) 2 (xc4)) (.slice (ya4) (cls n (pwg n (rdg n dz1) jk)).length (yc4))) := by rw [hwo114]; exact n107
  have L121 : Hid (MidC (v4.heap.size) (v5.heap.size) wo114 (xa1) ([(n : Int), (n : Int)]) (xc1)) := by rw [hwo114]; exact (L98.out.al (by omega) (.cells #[.bool false, .slice (xa4) 2 (xc4), .slice (ya4) (cls n (pwg n (rdg n dz1) jk)).length (yc4)] 24))
  have L122 : Hid (MidC (v4.heap.size) (v5.heap.size) wo114 (ya1) (cls n (pwg n (rdg n dz1) j)) (yc1)) := by rw [hwo114]; exact (L99.out.al (by omega) (.cells #[.bool false, .slice (xa4) 2 (xc4), .slice (ya4) (cls n (pwg n (rdg n dz1) jk)).length (yc4)] 24))
  have L123 : Hid (MidC (wo33.heap.size) (v6.heap.size) wo114 (xa2) ([(n : Int), (n : Int)]) (xc2)) := by rw [hwo114]; exact (L100.out.al (by omega) (.cells #[.bool false, .slice (xa4) 2 (xc4), .slice (ya4) (cls n (pwg n (rdg n dz1) jk)).length (yc4)] 24))
  have L124 : Hid (MidC (wo33.heap.size) (v6.heap.size) wo114 (ya2) (cls n (pwg n (rdg n dz1) k)) (yc2)) := by rw [hwo114]; exact (L101.out.al (by omega) (.cells #[.bool false, .slice (xa4) 2 (xc4), .slice (ya4) (cls n (pwg n (rdg n dz1) jk)).length (yc4)] 24))
  have L125 : Hid (MidC (wo55.heap.size) (v7.heap.size) wo114 (xa3) ([(n : Int), (n : Int)]) (xc3)) := by rw [hwo114]; exact (L102.out.al (by omega) (.cells #[.bool false, .slice (xa4) 2 (xc4), .slice (ya4) (cls n (pwg n (rdg n dz1) jk)).length (yc4)] 24))
  have L126 : Hid (MidC (wo55.heap.size) (v7.heap.size) wo114 (ya3) (mmL n (cls n (pwg n (rdg n dz1) j)) (cls n (pwg n (rdg n dz1) k))) (yc3)) := by rw [hwo114]; exact (L103.out.al (by omega) (.cells #[.bool false, .slice (xa4) 2 (xc4), .slice (ya4) (cls n (pwg n (rdg n dz1) jk)).length (yc4)] 24))
  have L127 : Hid (MidC (wo80.heap.size) (v8.heap.size) wo114 (xa4) ([(n : Int), (n : Int)]) (xc4)) := by rw [hwo114]; exact (L105.out.al (by omega) (.cells #[.bool false, .slice (xa4) 2 (xc4), .slice (ya4) (cls n (pwg n (rdg n dz1) jk)).length (yc4)] 24))
  have L128 : Hid (MidC (wo80.heap.size) (v8.heap.size) wo114 (ya4) (cls n (pwg n (rdg n dz1) jk)) (yc4)) := by rw [hwo114]; exact (L106.out.al (by omega) (.cells #[.bool false, .slice (xa4) 2 (xc4), .slice (ya4) (cls n (pwg n (rdg n dz1) jk)).length (yc4)] 24))
  have hb129 : Hid (Below w.heap.size w wo114) := by rw [hwo114]; exact (hb104.out.alloc (by omega) (.cells #[.bool false, .slice (xa4) 2 (xc4), .slice (ya4) (cls n (pwg n (rdg n dz1) jk)).length (yc4)] 24))
  have zwo114 : w.heap.size ≤ wo114.heap.size := hb129.out.size
  clear hwo114 n107 l108 l109 l110 l111 l112 l113 hb104 B94 B95 B96 B97 L98 L99 L100 L101 L102 L103 L105 L106
  refine (alike_eq false (xa3) (xc3) [(n : Int), (n : Int)] (ya3) (yc3) (mmL n (cls n (pwg n (rdg n dz1) j)) (cls n (pwg n (rdg n dz1) k))) (xa4) (xc4) [(n : Int), (n : Int)] (ya4) (yc4) (cls n (pwg n (rdg n dz1) jk)) rfl (by rw [HJK.out, pow_mul]) (by simp) (short14 hn (mmL_len n (cls n (pwg n (rdg n dz1) j)) (cls n (pwg n (rdg n dz1) k)))) _ (L125.out.is (by omega)) (L126.out.is (by omega)).1 (L127.out.is (by omega)) (L128.out.is (by omega)).1).mono ?_
  rintro e v9 ⟨rfl, hB⟩
  have z130 : wo114.heap.size ≤ v9.heap.size := hB.size
  have B131 : Hid (Abx v9 (w.heap.size) (.bool false) (.slice (some ⟨b1, o1, none⟩) 2 sc1) (.slice da1 dz1.length dc1)) := B116.out.go hB
  have B132 : Hid (Abx v9 (v5.heap.size) (.bool false) (.slice (xa1) 2 (xc1)) (.slice (ya1) (cls n (pwg n (rdg n dz1) j)).length (yc1))) := B117.out.go hB
  have B133 : Hid (Abx v9 (v6.heap.size) (.bool false) (.slice (xa2) 2 (xc2)) (.slice (ya2) (cls n (pwg n (rdg n dz1) k)).length (yc2))) := B118.out.go hB
  have B134 : Hid (Abx v9 (v7.heap.size) (.bool false) (.slice (xa3) 2 (xc3)) (.slice (ya3) (mmL n (cls n (pwg n (rdg n dz1) j)) (cls n (pwg n (rdg n dz1) k))).length (yc3))) := B119.out.go hB
  have B135 : Hid (Abx v9 (v8.heap.size) (.bool false) (.slice (xa4) 2 (xc4)) (.slice (ya4) (cls n (pwg n (rdg n dz1) jk)).length (yc4))) := B120.out.go hB
  have L136 : Hid (MidC (v4.heap.size) (v5.heap.size) v9 (xa1) ([(n : Int), (n : Int)]) (xc1)) := L121.out.go (by omega) hB
  have L137 : Hid (MidC (v4.heap.size) (v5.heap.size) v9 (ya1) (cls n (pwg n (rdg n dz1) j)) (yc1)) := L122.out.go (by omega) hB
  have L138 : Hid (MidC (wo33.heap.size) (v6.heap.size) v9 (xa2) ([(n : Int), (n : Int)]) (xc2)) := L123.out.go (by omega) hB
  have L139 : Hid (MidC (wo33.heap.size) (v6.heap.size) v9 (ya2) (cls n (pwg n (rdg n dz1) k)) (yc2)) := L124.out.go (by omega) hB
  have L140 : Hid (MidC (wo55.heap.size) (v7.heap.size) v9 (xa3) ([(n : Int), (n : Int)]) (xc3)) := L125.out.go (by omega) hB
  have L141 : Hid (MidC (wo55.heap.size) (v7.heap.size) v9 (ya3) (mmL n (cls n (pwg n (rdg n dz1) j)) (cls n (pwg n (rdg n dz1) k))) (yc3)) := L126.out.go (by omega) hB
  have L142 : Hid (MidC (wo80.heap.size) (v8.heap.size) v9 (xa4) ([(n : Int), (n : Int)]) (xc4)) := L127.out.go (by omega) hB
  have L143 : Hid (MidC (wo80.heap.size) (v8.heap.size) v9 (ya4) (cls n (pwg n (rdg n dz1) jk)) (yc4)) := L128.out.go (by omega) hB
  have hb144 : Hid (Below w.heap.size w v9) := hb129.out.trans (hB.mono hb129.out.size)
  clear hB hb129 B116 B117 B118 B119 B120 L121 L122 L123 L124 L125 L126 L127 L128
  have l145 := (B131.out).c0
  have l146 := (B131.out).c1
  have l147 := (B131.out).c2
  go_wp2_with fail
  clear l145 l146 l147
  refine (mpow_ok n hn (some ⟨b1, o1, none⟩) sc1 da1 dc1 dz1 dz1.length rfl HL1.out _ ((HI1.out.1.below hb144.out).mono hb144.out.size).1 ((HI1.out.2.1.below hb144.out).mono hb144.out.size).1 HI1.out.2.2 1 (by decide)).mono ?_
  rintro e v10 ⟨xa5, xc5, ya5, yc5, rfl, hX5, hY5, hB⟩
  have z148 : v9.heap.size ≤ v10.heap.size := hB.size
  have B149 : Hid (Abx v10 (w.heap.size) (.bool false) (.slice (some ⟨b1, o1, none⟩) 2 sc1) (.slice da1 dz1.length dc1)) := B131.out.go hB
  have B150 : Hid (Abx v10 (v5.heap.size) (.bool false) (.slice (xa1) 2 (xc1)) (.slice (ya1) (cls n (pwg n (rdg n dz1) j)).length (yc1))) := B132.out.go hB
  have B151 : Hid (Abx v10 (v6.heap.size) (.bool false) (.slice (xa2) 2 (xc2)) (.slice (ya2) (cls n (pwg n (rdg n dz1) k)).length (yc2))) := B133.out.go hB
  have B152 : Hid (Abx v10 (v7.heap.size) (.bool false) (.slice (xa3) 2 (xc3)) (.slice (ya3) (mmL n (cls n (pwg n (rdg n dz1) j)) (cls n (pwg n (rdg n dz1) k))).length (yc3))) := B134.out.go hB
  have B153 : Hid (Abx v10 (v8.heap.size) (.bool false) (.slice (xa4) 2 (xc4)) (.slice (ya4) (cls n (pwg n (rdg n dz1) jk)).length (yc4))) := B135.out.go hB
  have L154 : Hid (MidC (v4.heap.size) (v5.heap.size) v10 (xa1) ([(n : Int), (n : Int)]) (xc1)) := L136.out.go (by omega) hB
  have L155 : Hid (MidC (v4.heap.size) (v5.heap.size) v10 (ya1) (cls n (pwg n (rdg n dz1) j)) (yc1)) := L137.out.go (by omega) hB
  have L156 : Hid (MidC (wo33.heap.size) (v6.heap.size) v10 (xa2) ([(n : Int), (n : Int)]) (xc2)) := L138.out.go (by omega) hB
  have L157 : Hid (MidC (wo33.heap.size) (v6.heap.size) v10 (ya2) (cls n (pwg n (rdg n dz1) k)) (yc2)) := L139.out.go (by omega) hB
  have L158 : Hid (MidC (wo55.heap.size) (v7.heap.size) v10 (xa3) ([(n : Int), (n : Int)]) (xc3)) := L140.out.go (by omega) hB
  have L159 : Hid (MidC (wo55.heap.size) (v7.heap.size) v10 (ya3) (mmL n (cls n (pwg n (rdg n dz1) j)) (cls n (pwg n (rdg n dz1) k))) (yc3)) := L141.out.go (by omega) hB
  have L160 : Hid (MidC (wo80.heap.size) (v8.heap.size) v10 (xa4) ([(n : Int), (n : Int)]) (xc4)) := L142.out.go (by omega) hB
  have L161 : Hid (MidC (wo80.heap.size) (v8.heap.size) v10 (ya4) (cls n (pwg n (rdg n dz1) jk)) (yc4)) := L143.out.go (by omega) hB
  have hb162 : Hid (Below w.heap.size w v10) := hb144.out.trans (hB.mono hb144.out.size)
  have L163 : Hid (MidC (v9.heap.size) (v10.heap.size) v10 (xa5) ([(n : Int), (n : Int)]) (xc5)) := hX5.midc
  have L164 : Hid (MidC (v9.heap.size) (v10.heap.size) v10 (ya5) (cls n (pwg n (rdg n dz1) 1)) (yc5)) := hY5.midc
  clear hB hb144 B131 B132 B133 B134 B135 L136 L137 L138 L139 L140 L141 L142 L143 hX5 hY5
  have n165 := Abx.new v10 (.bool false) (.slice (xa5) 2 (xc5)) (.slice (ya5) (cls n (pwg n (rdg n dz1) 1)).length (yc5))
  have l166 := (n165).c0
  have l167 := (n165).c1
  have l168 := (n165).c2
  have l169 := ((B149.out.al (.cells #[.bool false, .slice (xa5) 2 (xc5), .slice (ya5) (cls n (pwg n (rdg n dz1) 1)).length (yc5)] 24))).c0
  have l170 := ((B149.out.al (.cells #[.bool false, .slice (xa5) 2 (xc5), .slice (ya5) (cls n (pwg n (rdg n dz1) 1)).length (yc5)] 24))).c1
  have l171 := ((B149.out.al (.cells #[.bool false, .slice (xa5) 2 (xc5), .slice (ya5) (cls n (pwg n (rdg n dz1) 1)).length (yc5)] 24))).c2
  go_wp2_with fail
  obtain ⟨wo172, hwo172⟩ : ∃ wo172, wo172 = (v10.alloc (.cells #[.bool false, .slice (xa5) 2 (xc5), .slice (ya5) (cls n (pwg n (rdg n dz1) 1)).length (yc5)] 24)) := ⟨_, rfl⟩
  rw [← hwo172]
  have z173 : v10.heap.size + 1 ≤ wo172.heap.size := by rw [hwo172]; simp only [World.size_alloc]; omega
  have B174 : Hid (Abx wo172 (w.heap.size) (.bool false) (.slice (some ⟨b1, o1, none⟩) 2 sc1) (.slice da1 dz1.length dc1)) := by rw [hwo172]; exact (B149.out.al (.cells #[.bool false, .slice (xa5) 2 (xc5), .slice (ya5) (cls n (pwg n (rdg n dz1) 1)).length (yc5)] 24))
  have B175 : Hid (Abx wo172 (v5.heap.size) (.bool false) (.slice (xa1) 2 (xc1)) (.slice (ya1) (cls n (pwg n (rdg n dz1) j)).length (yc1))) := by rw [hwo172]; exact (B150.out.al (.cells #[.bool false, .slice (xa5) 2 (xc5), .slice (ya5) (cls n (pwg n (rdg n dz1) 1)).length (yc5)] 24))
  have B176 : Hid (Abx wo172 (v6.heap.size) (.bool false) (.slice (xa2) 2 (xc2)) (.slice (ya2) (cls n (pwg n (rdg n dz1) k)).length (yc2))) := by rw [hwo172]; exact (B151.out.al (.cells #[.bool false, .slice (xa5) 2 (xc5), .slice (ya5) (cls n (pwg n (rdg n dz1) 1)).length (yc5)] 24))
  have B177 : Hid (Abx wo172 (v7.heap.size) (.bool false) (.slice (xa3) 2 (xc3)) (.slice (ya3) (mmL n (cls n (pwg n (rdg n dz1) j)) (cls n (pwg n (rdg n dz1) k))).length (yc3))) := by rw [hwo172]; exact (B152.out.al (.cells #[.bool false, .slice (xa5) 2 (xc5), .slice (ya5) (cls n (pwg n (rdg n dz1) 1)).length (yc5)] 24))
  have B178 : Hid (Abx wo172 (v8.heap.size) (.bool false) (.slice (xa4) 2 (xc4)) (.slice (ya4) (cls n (pwg n (rdg n dz1) jk)).length (yc4))) := by rw [hwo172]; exact (B153.out.al (.cells #[.bool false, .slice (xa5) 2 (xc5), .slice (ya5) (cls n (pwg n (rdg n dz1) 1)).length (yc5)] 24))
  have B179 : Hid (Abx wo172 (v10.heap.size) (.bool false) (.slice (xa5) 2 (xc5)) (.slice (ya5) (cls n (pwg n (rdg n dz1) 1)).length (yc5))) := by rw [hwo172]; exact n165
  have L180 : Hid (MidC (v4.heap.size) (v5.heap.size) wo172 (xa1) ([(n : Int), (n : Int)]) (xc1)) := by rw [hwo172]; exact (L154.out.al (by omega) (.cells #[.bool false, .slice (xa5) 2 (xc5), .slice (ya5) (cls n (pwg n (rdg n dz1) 1)).length (yc5)] 24))
  have L181 : Hid (MidC (v4.heap.size) (v5.heap.size) wo172 (ya1) (cls n (pwg n (rdg n dz1) j)) (yc1)) := by rw [hwo172]; exact (L155.out.al (by omega) (.cells #[.bool false, .slice (xa5) 2 (xc5), .slice (ya5) (cls n (pwg n (rdg n dz1) 1)).length (yc5)] 24))
  have L182 : Hid (MidC (wo33.heap.size) (v6.heap.size) wo172 (xa2) ([(n : Int), (n : Int)]) (xc2)) := by rw [hwo172]; exact (L156.out.al (by omega) (.cells #[.bool false, .slice (xa5) 2 (xc5), .slice (ya5) (cls n (pwg n (rdg n dz1) 1)).length (yc5)] 24))
  have L183 : Hid (MidC (wo33.heap.size) (v6.heap.size) wo172 (ya2) (cls n (pwg n (rdg n dz1) k)) (yc2)) := by rw [hwo172]; exact (L157.out.al (by omega) (.cells #[.bool false, .slice (xa5) 2 (xc5), .slice (ya5) (cls n (pwg n (rdg n dz1) 1)).length (yc5)] 24))
  have L184 : Hid (MidC (wo55.heap.size) (v7.heap.size) wo172 (xa3) ([(n : Int), (n : Int)]) (xc3)) := by rw [hwo172]; exact (L158.out.al (by omega) (.cells #[.bool false, .slice (xa5) 2 (xc5), .slice (ya5) (cls n (pwg n (rdg n dz1) 1)).length (yc5)] 24))
  have L185 : Hid (MidC (wo55.heap.size) (v7.heap.size) wo172 (ya3) (mmL n (cls n (pwg n (rdg n dz1) j)) (cls n (pwg n (rdg n dz1) k))) (yc3)) := by rw [hwo172]; exact (L159.out.al (by omega) (.cells #[.bool false, .slice (xa5) 2 (xc5), .slice (ya5) (cls n (pwg n (rdg n dz1) 1)).length (yc5)] 24))
  have L186 : Hid (MidC (wo80.heap.size) (v8.heap.size) wo172 (xa4) ([(n : Int), (n : Int)]) (xc4)) := by rw [hwo172]; exact (L160.out.al (by omega) (.cells #[.bool false, .slice (xa5) 2 (xc5), .slice (ya5) (cls n (pwg n (rdg n dz1) 1)).length (yc5)] 24))
  have L187 : Hid (MidC (wo80.heap.size) (v8.heap.size) wo172 (ya4) (cls n (pwg n (rdg n dz1) jk)) (yc4)) := by rw [hwo172]; exact (L161.out.al (by omega) (.cells #[.bool false, .slice (xa5) 2 (xc5), .slice (ya5) (cls n (pwg n (rdg n dz1) 1)).length (yc5)] 24))
  have L188 : Hid (MidC (v9.heap.size) (v10.heap.size) wo172 (xa5) ([(n : Int), (n : Int)]) (xc5)) := by rw [hwo172]; exact (L163.out.al (by omega) (.cells #[.bool false, .slice (xa5) 2 (xc5), .slice (ya5) (cls n (pwg n (rdg n dz1) 1)).length (yc5)] 24))
  have L189 : Hid (MidC (v9.heap.size) (v10.heap.size) wo172 (ya5) (cls n (pwg n (rdg n dz1) 1)) (yc5)) := by rw [hwo172]; exact (L164.out.al (by omega) (.cells #[.bool false, .slice (xa5) 2 (xc5), .slice (ya5) (cls n (pwg n (rdg n dz1) 1)).length (yc5)] 24))
  have hb190 : Hid (Below w.heap.size w wo172) := by rw [hwo172]; exact (hb162.out.alloc (by omega) (.cells #[.bool false, .slice (xa5) 2 (xc5), .slice (ya5) (cls n (pwg n (rdg n dz1) 1)).length (yc5)] 24))
  have zwo172 : w.heap.size ≤ wo172.heap.size := hb190.out.size
  clear hwo172 n165 l166 l167 l168 l169 l170 l171 hb162 B149 B150 B151 B152 B153 L154 L155 L156 L157 L158 L159 L160 L161 L163 L164
  refine (alike_eq false (xa5) (xc5) [(n : Int), (n : Int)] (ya5) (yc5) (cls n (pwg n (rdg n dz1) 1)) (some ⟨b1, o1, none⟩) sc1 [(n : Int), (n : Int)] da1 dc1 dz1 rfl (pow_one HL1.out HI1.out.2.2).symm (by simp) (short14 hn (cls_len n _)) _ (L188.out.is (by omega)) (L189.out.is (by omega)).1 ((HI1.out.1.below hb190.out).mono hb190.out.size) ((HI1.out.2.1.below hb190.out).mono hb190.out.size).1).mono ?_
  rintro e v11 ⟨rfl, hB⟩
  have z191 : wo172.heap.size ≤ v11.heap.size := hB.size
  have B192 : Hid (Abx v11 (w.heap.size) (.bool false) (.slice (some ⟨b1, o1, none⟩) 2 sc1) (.slice da1 dz1.length dc1)) := B174.out.go hB
  have B193 : Hid (Abx v11 (v5.heap.size) (.bool false) (.slice (xa1) 2 (xc1)) (.slice (ya1) (cls n (pwg n (rdg n dz1) j)).length (yc1))) := B175.out.go hB
  have B194 : Hid (Abx v11 (v6.heap.size) (.bool false) (.slice (xa2) 2 (xc2)) (.slice (ya2) (cls n (pwg n (rdg n dz1) k)).length (yc2))) := B176.out.go hB
  have B195 : Hid (Abx v11 (v7.heap.size) (.bool false) (.slice (xa3) 2 (xc3)) (.slice (ya3) (mmL n (cls n (pwg n (rdg n dz1) j)) (cls n (pwg n (rdg n dz1) k))).length (yc3))) := B177.out.go hB
  have B196 : Hid (Abx v11 (v8.heap.size) (.bool false) (.slice (xa4) 2 (xc4)) (.slice (ya4) (cls n (pwg n (rdg n dz1) jk)).length (yc4))) := B178.out.go hB
  have B197 : Hid (Abx v11 (v10.heap.size) (.bool false) (.slice (xa5) 2 (xc5)) (.slice (ya5) (cls n (pwg n (rdg n dz1) 1)).length (yc5))) := B179.out.go hB
  have L198 : Hid (MidC (v4.heap.size) (v5.heap.size) v11 (xa1) ([(n : Int), (n : Int)]) (xc1)) := L180.out.go (by omega) hB
  have L199 : Hid (MidC (v4.heap.size) (v5.heap.size) v11 (ya1) (cls n (pwg n (rdg n dz1) j)) (yc1)) := L181.out.go (by omega) hB
  have L200 : Hid (MidC (wo33.heap.size) (v6.heap.size) v11 (xa2) ([(n : Int), (n : Int)]) (xc2)) := L182.out.go (by omega) hB
  have L201 : Hid (MidC (wo33.heap.size) (v6.heap.size) v11 (ya2) (cls n (pwg n (rdg n dz1) k)) (yc2)) := L183.out.go (by omega) hB
  have L202 : Hid (MidC (wo55.heap.size) (v7.heap.size) v11 (xa3) ([(n : Int), (n : Int)]) (xc3)) := L184.out.go (by omega) hB
  have L203 : Hid (MidC (wo55.heap.size) (v7.heap.size) v11 (ya3) (mmL n (cls n (pwg n (rdg n dz1) j)) (cls n (pwg n (rdg n dz1) k))) (yc3)) := L185.out.go (by omega) hB
  have L204 : Hid (MidC (wo80.heap.size) (v8.heap.size) v11 (xa4) ([(n : Int), (n : Int)]) (xc4)) := L186.out.go (by omega) hB
  have L205 : Hid (MidC (wo80.heap.size) (v8.heap.size) v11 (ya4) (cls n (pwg n (rdg n dz1) jk)) (yc4)) := L187.out.go (by omega) hB
  have L206 : Hid (MidC (v9.heap.size) (v10.heap.size) v11 (xa5) ([(n : Int), (n : Int)]) (xc5)) := L188.out.go (by omega) hB
  have L207 : Hid (MidC (v9.heap.size) (v10.heap.size) v11 (ya5) (cls n (pwg n (rdg n dz1) 1)) (yc5)) := L189.out.go (by omega) hB
  have hb208 : Hid (Below w.heap.size w v11) := hb190.out.trans (hB.mono hb190.out.size)
  clear hB hb190 B174 B175 B176 B177 B178 B179 L180 L181 L182 L183 L184 L185 L186 L187 L188 L189
  go_wp2_with fail
  go_ret
  exact ⟨rfl, hb208.out⟩
theorem mtims_walk (HNi : CNi) (c1 : Bool) (sa1 : Option Addr) (sc1 : Nat) (sz1 : List Int) (da1 : Option Addr) (dc1 : Nat) (dz1 : List Int) (j k : Int) (hj : In64 j) (hk : In64 k) (w : World) (w8 : IsArrD w sa1 sz1 sc1 da1 dz1 dc1) :
    Calls Try.prog 3 #[.agg #[.bool c1, .slice sa1 sz1.length sc1, .slice da1 dz1.length dc1], .int .i64 j, .int .i64 k] w fun e w' => e = .returned (.bool true) ∧ Below w.heap.size w w' := by
  by_cases h1 : SqP c1 sz1 dz1
  · obtain ⟨n, hn, rfl, hl1, rfl⟩ := h1
    obtain ⟨b1, o1, rfl⟩ := opn14 w8.2.2.1
    by_cases e1 : 0 ≤ j ∧ j ≤ 1099511627776
    · by_cases e2 : 0 ≤ k ∧ k ≤ 1099511627776
      · obtain ⟨j, rfl⟩ := Int.eq_ofNat_of_zero_le e1.1
        obtain ⟨k, rfl⟩ := Int.eq_ofNat_of_zero_le e2.1
        exact tims_ok HNi n hn b1 o1 sc1 da1 dc1 dz1 hl1 w ⟨w8.2.2.1, w8.2.2.2.1, w8.2.2.2.2.2⟩ j k (by omega) (by omega)
      · exact tims_k n hn b1 o1 sc1 da1 dc1 dz1 hl1 w ⟨w8.2.2.1, w8.2.2.2.1, w8.2.2.2.2.2⟩ j k e1 e2
    · exact tims_j n hn b1 o1 sc1 da1 dc1 dz1 hl1 w ⟨w8.2.2.1, w8.2.2.2.1, w8.2.2.2.2.2⟩ j k e1
  · exact tims_a HNi c1 sa1 sc1 sz1 da1 dc1 dz1 j k hj hk w w8 h1
end Go.Proofs.Ytjaabemlpiafaac
