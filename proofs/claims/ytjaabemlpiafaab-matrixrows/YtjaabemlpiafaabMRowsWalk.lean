/-
  The walk of the statement MatrixRows, given what the program tells.
-/
import Derived.Test.YtjaabemlpiafaabMtq
import Derived.Test.YtjaabemlpiafaabMidc
namespace Go.Proofs.Ytjaabemlpiafaab
open Go.RowKit
set_option linter.unusedVariables false

theorem shp14 {w v : World} {b o n sc : Nat} (h : IsC w.heap.size w (some ⟨b, o, none⟩) [(n : Int), (n : Int)] sc) (hB : Below w.heap.size w v) : b < w.heap.size ∧ v.cell? ⟨b, o, none⟩ = some (.int .i64 (n : Int)) := by
  obtain ⟨b', o', e, hb, hc⟩ := (h.1.below hB).at (q := 0) (by simp)
  cases e
  have h0 := hc 0 (by simp)
  rw [Nat.add_zero] at h0
  exact ⟨hb, h0⟩
theorem opn14 {w : World} {sa : Option Addr} {n sc : Nat} (h : IsC w.heap.size w sa [(n : Int), (n : Int)] sc) : ∃ b o, sa = some ⟨b, o, none⟩ := by
  obtain ⟨b, o, e, _, _⟩ := h.1.at (q := 0) (by simp)
  exact ⟨b, o, e⟩
set_option maxRecDepth 100000 in
set_option maxHeartbeats 2000000 in
theorem rows_a (c1 : Bool) (sa1 : Option Addr) (sc1 : Nat) (sz1 : List Int) (da1 : Option Addr) (dc1 : Nat) (dz1 : List Int) (i tt : Int) (hi : In64 i) (ht : In64 tt) (ra : Option Addr) (rc : Nat) (rz : List Int) (w : World) (w8 : IsArrD w sa1 sz1 sc1 da1 dz1 dc1) (hr : IsInts w.heap.size w ra rz) (G1 : Hid (¬ SqP c1 sz1 dz1)) :
    Calls Try.prog 6 #[.agg #[.bool c1, .slice sa1 sz1.length sc1, .slice da1 dz1.length dc1], .int .i64 i, .int .i64 tt, .slice ra rz.length rc] w fun e w' => e = .returned (.bool true) ∧ Below w.heap.size w w' := by
  have HI1 : Hid (IsC w.heap.size w sa1 sz1 sc1 ∧ IsC w.heap.size w da1 dz1 dc1) := ⟨w8.2.2.1, w8.2.2.2.1⟩
  have n1 := Abx.new w (.bool c1) (.slice sa1 sz1.length sc1) (.slice da1 dz1.length dc1)
  go_enter Try.func6, Try.ntmps6
  go_wp2_with fail
  obtain ⟨wo2, hwo2⟩ : ∃ wo2, wo2 = (w.alloc (.cells #[.bool c1, .slice sa1 sz1.length sc1, .slice da1 dz1.length dc1] 24)) := ⟨_, rfl⟩
  rw [← hwo2]
  have z3 : w.heap.size + 1 ≤ wo2.heap.size := by rw [hwo2]; simp only [World.size_alloc]; omega
  have B4 : Hid (Abx wo2 (w.heap.size) (.bool c1) (.slice sa1 sz1.length sc1) (.slice da1 dz1.length dc1)) := by rw [hwo2]; exact n1
  have hb5 : Hid (Below w.heap.size w wo2) := by rw [hwo2]; exact ((Below.refl w.heap.size w).alloc (by omega) (.cells #[.bool c1, .slice sa1 sz1.length sc1, .slice da1 dz1.length dc1] 24))
  have zwo2 : w.heap.size ≤ wo2.heap.size := hb5.out.size
  clear hwo2 n1
  refine (fact14_any _).mono ?_
  rintro e v1 ⟨rfl, hB⟩
  have z6 : wo2.heap.size ≤ v1.heap.size := hB.size
  have B7 : Hid (Abx v1 (w.heap.size) (.bool c1) (.slice sa1 sz1.length sc1) (.slice da1 dz1.length dc1)) := B4.out.go hB
  have hb8 : Hid (Below w.heap.size w v1) := hb5.out.trans (hB.mono hb5.out.size)
  clear hB hb5 B4
  have l9 := (B7.out).c0
  have l10 := (B7.out).c1
  have l11 := (B7.out).c2
  go_wp2_with fail
  clear l9 l10 l11
  refine (square_no c1 sa1 sc1 sz1 da1 dc1 dz1 _ ((HI1.out.1.below hb8.out).mono hb8.out.size).1 G1.out).mono ?_
  rintro e v2 ⟨rfl, hB⟩
  have z12 : v1.heap.size ≤ v2.heap.size := hB.size
  have B13 : Hid (Abx v2 (w.heap.size) (.bool c1) (.slice sa1 sz1.length sc1) (.slice da1 dz1.length dc1)) := B7.out.go hB
  have hb14 : Hid (Below w.heap.size w v2) := hb8.out.trans (hB.mono hb8.out.size)
  clear hB hb8 B7
  go_wp2_with fail
  go_ret
  exact ⟨rfl, hb14.out⟩
set_option maxRecDepth 100000 in
set_option maxHeartbeats 2000000 in
theorem rows_i0 (n : Nat) (hn : n ≤ 6) (b1 o1 sc1 : Nat) (da1 : Option Addr) (dc1 : Nat) (dz1 : List Int) (HL1 : Hid (dz1.length = n * n)) (w : World) (HI1 : Hid (IsC w.heap.size w (some ⟨b1, o1, none⟩) [(n : Int), (n : Int)] sc1 ∧ IsC w.heap.size w da1 dz1 dc1 ∧ ∀ j, In64 (nth dz1 j))) (i tt : Int) (ra : Option Addr) (rl rc : Nat) (g : i < 0) :
    Calls Try.prog 6 #[.agg #[.bool false, .slice (some ⟨b1, o1, none⟩) 2 sc1, .slice da1 dz1.length dc1], .int .i64 i, .int .i64 tt, .slice ra rl rc] w fun e w' => e = .returned (.bool true) ∧ Below w.heap.size w w' := by
  have t1 : decide (i < 0) = true := decide_eq_true g
  have HSh : Hid (∀ v, Below w.heap.size w v → v.cell? ⟨b1, o1, none⟩ = some (.int .i64 (n : Int))) := fun v h => (shp14 HI1.out.1 h).2
  have n1 := Abx.new w (.bool false) (.slice (some ⟨b1, o1, none⟩) 2 sc1) (.slice da1 dz1.length dc1)
  go_enter Try.func6, Try.ntmps6
  go_wp2_with fail
  obtain ⟨wo2, hwo2⟩ : ∃ wo2, wo2 = (w.alloc (.cells #[.bool false, .slice (some ⟨b1, o1, none⟩) 2 sc1, .slice da1 dz1.length dc1] 24)) := ⟨_, rfl⟩
  rw [← hwo2]
  have z3 : w.heap.size + 1 ≤ wo2.heap.size := by rw [hwo2]; simp only [World.size_alloc]; omega
  have B4 : Hid (Abx wo2 (w.heap.size) (.bool false) (.slice (some ⟨b1, o1, none⟩) 2 sc1) (.slice da1 dz1.length dc1)) := by rw [hwo2]; exact n1
  have hb5 : Hid (Below w.heap.size w wo2) := by rw [hwo2]; exact ((Below.refl w.heap.size w).alloc (by omega) (.cells #[.bool false, .slice (some ⟨b1, o1, none⟩) 2 sc1, .slice da1 dz1.length dc1] 24))
  have zwo2 : w.heap.size ≤ wo2.heap.size := hb5.out.size
  clear hwo2 n1
  refine (fact14_any _).mono ?_
  rintro e v1 ⟨rfl, hB⟩
  have z6 : wo2.heap.size ≤ v1.heap.size := hB.size
  have B7 : Hid (Abx v1 (w.heap.size) (.bool false) (.slice (some ⟨b1, o1, none⟩) 2 sc1) (.slice da1 dz1.length dc1)) := B4.out.go hB
  have hb8 : Hid (Below w.heap.size w v1) := hb5.out.trans (hB.mono hb5.out.size)
  clear hB hb5 B4
  have l9 := (B7.out).c0
  have l10 := (B7.out).c1
  have l11 := (B7.out).c2
  go_wp2_with fail
  clear l9 l10 l11
  refine (square_yes n hn (some ⟨b1, o1, none⟩) sc1 da1 dc1 dz1 dz1.length rfl HL1.out _ ((HI1.out.1.below hb8.out).mono hb8.out.size).1).mono ?_
  rintro e v2 ⟨rfl, hB⟩
  have z12 : v1.heap.size ≤ v2.heap.size := hB.size
  have B13 : Hid (Abx v2 (w.heap.size) (.bool false) (.slice (some ⟨b1, o1, none⟩) 2 sc1) (.slice da1 dz1.length dc1)) := B7.out.go hB
  have hb14 : Hid (Below w.heap.size w v2) := hb8.out.trans (hB.mono hb8.out.size)
  clear hB hb8 B7
  have l15 := (B13.out).c0
  have l16 := (B13.out).c1
  have l17 := (B13.out).c2
  have l18 := HSh.out _ hb14.out
  go_wp2_with fail
  clear l15 l16 l17 l18
  go_ret
  exact ⟨rfl, hb14.out⟩
set_option maxRecDepth 100000 in
set_option maxHeartbeats 2000000 in
theorem rows_in (n : Nat) (hn : n ≤ 6) (b1 o1 sc1 : Nat) (da1 : Option Addr) (dc1 : Nat) (dz1 : List Int) (HL1 : Hid (dz1.length = n * n)) (w : World) (HI1 : Hid (IsC w.heap.size w (some ⟨b1, o1, none⟩) [(n : Int), (n : Int)] sc1 ∧ IsC w.heap.size w da1 dz1 dc1 ∧ ∀ j, In64 (nth dz1 j))) (i tt : Int) (ra : Option Addr) (rl rc : Nat) (g0 : ¬ i < 0) (g : (n : Int) ≤ i) :
    Calls Try.prog 6 #[.agg #[.bool false, .slice (some ⟨b1, o1, none⟩) 2 sc1, .slice da1 dz1.length dc1], .int .i64 i, .int .i64 tt, .slice ra rl rc] w fun e w' => e = .returned (.bool true) ∧ Below w.heap.size w w' := by
  have t1 : decide (i < 0) = false := decide_eq_false g0
  have t4 : decide ((n : Int) ≤ i) = true := decide_eq_true g
  have HSh : Hid (∀ v, Below w.heap.size w v → v.cell? ⟨b1, o1, none⟩ = some (.int .i64 (n : Int))) := fun v h => (shp14 HI1.out.1 h).2
  have n1 := Abx.new w (.bool false) (.slice (some ⟨b1, o1, none⟩) 2 sc1) (.slice da1 dz1.length dc1)
  go_enter Try.func6, Try.ntmps6
  go_wp2_with fail
  obtain ⟨wo2, hwo2⟩ : ∃ wo2, wo2 = (w.alloc (.cells #[.bool false, .slice (some ⟨b1, o1, none⟩) 2 sc1, .slice da1 dz1.length dc1] 24)) := ⟨_, rfl⟩
  rw [← hwo2]
  have z3 : w.heap.size + 1 ≤ wo2.heap.size := by rw [hwo2]; simp only [World.size_alloc]; omega
  have B4 : Hid (Abx wo2 (w.heap.size) (.bool false) (.slice (some ⟨b1, o1, none⟩) 2 sc1) (.slice da1 dz1.length dc1)) := by rw [hwo2]; exact n1
  have hb5 : Hid (Below w.heap.size w wo2) := by rw [hwo2]; exact ((Below.refl w.heap.size w).alloc (by omega) (.cells #[.bool false, .slice (some ⟨b1, o1, none⟩) 2 sc1, .slice da1 dz1.length dc1] 24))
  have zwo2 : w.heap.size ≤ wo2.heap.size := hb5.out.size
  clear hwo2 n1
  refine (fact14_any _).mono ?_
  rintro e v1 ⟨rfl, hB⟩
  have z6 : wo2.heap.size ≤ v1.heap.size := hB.size
  have B7 : Hid (Abx v1 (w.heap.size) (.bool false) (.slice (some ⟨b1, o1, none⟩) 2 sc1) (.slice da1 dz1.length dc1)) := B4.out.go hB
  have hb8 : Hid (Below w.heap.size w v1) := hb5.out.trans (hB.mono hb5.out.size)
  clear hB hb5 B4
  have l9 := (B7.out).c0
  have l10 := (B7.out).c1
  have l11 := (B7.out).c2
  go_wp2_with fail
  clear l9 l10 l11
  refine (square_yes n hn (some ⟨b1, o1, none⟩) sc1 da1 dc1 dz1 dz1.length rfl HL1.out _ ((HI1.out.1.below hb8.out).mono hb8.out.size).1).mono ?_
  rintro e v2 ⟨rfl, hB⟩
  have z12 : v1.heap.size ≤ v2.heap.size := hB.size
  have B13 : Hid (Abx v2 (w.heap.size) (.bool false) (.slice (some ⟨b1, o1, none⟩) 2 sc1) (.slice da1 dz1.length dc1)) := B7.out.go hB
  have hb14 : Hid (Below w.heap.size w v2) := hb8.out.trans (hB.mono hb8.out.size)
  clear hB hb8 B7
  have l15 := (B13.out).c0
  have l16 := (B13.out).c1
  have l17 := (B13.out).c2
  have l18 := HSh.out _ hb14.out
  go_wp2_with fail
  clear l15 l16 l17 l18
  go_ret
  exact ⟨rfl, hb14.out⟩
set_option maxRecDepth 100000 in
set_option maxHeartbeats 2000000 in
theorem rows_rl (n : Nat) (hn : n ≤ 6) (b1 o1 sc1 : Nat) (da1 : Option Addr) (dc1 : Nat) (dz1 : List Int) (HL1 : Hid (dz1.length = n * n)) (w : World) (HI1 : Hid (IsC w.heap.size w (some ⟨b1, o1, none⟩) [(n : Int), (n : Int)] sc1 ∧ IsC w.heap.size w da1 dz1 dc1 ∧ ∀ j, In64 (nth dz1 j))) (i tt : Int) (ra : Option Addr) (rl rc : Nat) (g0 : ¬ i < 0) (g1 : ¬ (n : Int) ≤ i) (g : ¬ rl = n) :
    Calls Try.prog 6 #[.agg #[.bool false, .slice (some ⟨b1, o1, none⟩) 2 sc1, .slice da1 dz1.length dc1], .int .i64 i, .int .i64 tt, .slice ra rl rc] w fun e w' => e = .returned (.bool true) ∧ Below w.heap.size w w' := by
  have t1 : decide (i < 0) = false := decide_eq_false g0
  have t4 : decide ((n : Int) ≤ i) = false := decide_eq_false g1
  have t5 : ((rl : Int) != (n : Int)) = true := by simp; omega
  clear g
  have HSh : Hid (∀ v, Below w.heap.size w v → v.cell? ⟨b1, o1, none⟩ = some (.int .i64 (n : Int))) := fun v h => (shp14 HI1.out.1 h).2
  have n1 := Abx.new w (.bool false) (.slice (some ⟨b1, o1, none⟩) 2 sc1) (.slice da1 dz1.length dc1)
  go_enter Try.func6, Try.ntmps6
  go_wp2_with fail
  obtain ⟨wo2, hwo2⟩ : ∃ wo2, wo2 = (w.alloc (.cells #[.bool false, .slice (some ⟨b1, o1, none⟩) 2 sc1, .slice da1 dz1.length dc1] 24)) := ⟨_, rfl⟩
  rw [← hwo2]
  have z3 : w.heap.size + 1 ≤ wo2.heap.size := by rw [hwo2]; simp only [World.size_alloc]; omega
  have B4 : Hid (Abx wo2 (w.heap.size) (.bool false) (.slice (some ⟨b1, o1, none⟩) 2 sc1) (.slice da1 dz1.length dc1)) := by rw [hwo2]; exact n1
  have hb5 : Hid (Below w.heap.size w wo2) := by rw [hwo2]; exact ((Below.refl w.heap.size w).alloc (by omega) (.cells #[.bool false, .slice (some ⟨b1, o1, none⟩) 2 sc1, .slice da1 dz1.length dc1] 24))
  have zwo2 : w.heap.size ≤ wo2.heap.size := hb5.out.size
  clear hwo2 n1
  refine (fact14_any _).mono ?_
  rintro e v1 ⟨rfl, hB⟩
  have z6 : wo2.heap.size ≤ v1.heap.size := hB.size
  have B7 : Hid (Abx v1 (w.heap.size) (.bool false) (.slice (some ⟨b1, o1, none⟩) 2 sc1) (.slice da1 dz1.length dc1)) := B4.out.go hB
  have hb8 : Hid (Below w.heap.size w v1) := hb5.out.trans (hB.mono hb5.out.size)
  clear hB hb5 B4
  have l9 := (B7.out).c0
  have l10 := (B7.out).c1
  have l11 := (B7.out).c2
  go_wp2_with fail
  clear l9 l10 l11
  refine (square_yes n hn (some ⟨b1, o1, none⟩) sc1 da1 dc1 dz1 dz1.length rfl HL1.out _ ((HI1.out.1.below hb8.out).mono hb8.out.size).1).mono ?_
  rintro e v2 ⟨rfl, hB⟩
  have z12 : v1.heap.size ≤ v2.heap.size := hB.size
  have B13 : Hid (Abx v2 (w.heap.size) (.bool false) (.slice (some ⟨b1, o1, none⟩) 2 sc1) (.slice da1 dz1.length dc1)) := B7.out.go hB
  have hb14 : Hid (Below w.heap.size w v2) := hb8.out.trans (hB.mono hb8.out.size)
  clear hB hb8 B7
  have l15 := (B13.out).c0
  have l16 := (B13.out).c1
  have l17 := (B13.out).c2
  have l18 := HSh.out _ hb14.out
  go_wp2_with fail
  clear l15 l16 l17 l18
  go_ret
  exact ⟨rfl, hb14.out⟩
set_option maxRecDepth 100000 in
set_option maxHeartbeats 2000000 in
theorem rows_ok (n : Nat) (hn : n ≤ 6) (b1 o1 sc1 : Nat) (da1 : Option Addr) (dc1 : Nat) (dz1 : List Int) (HL1 : Hid (dz1.length = n * n)) (w : World) (HI1 : Hid (IsC w.heap.size w (some ⟨b1, o1, none⟩) [(n : Int), (n : Int)] sc1 ∧ IsC w.heap.size w da1 dz1 dc1 ∧ ∀ j, In64 (nth dz1 j))) (i : Nat) (tt : Int) (hi : i < n) (ra : Option Addr) (rc : Nat) (rz : List Int) (hrl : rz.length = n) (hr : IsInts w.heap.size w ra rz) :
    Calls Try.prog 6 #[.agg #[.bool false, .slice (some ⟨b1, o1, none⟩) 2 sc1, .slice da1 dz1.length dc1], .int .i64 (i : Nat), .int .i64 tt, .slice ra n rc] w fun e w' => e = .returned (.bool true) ∧ Below w.heap.size w w' := by
  have hni : ¬ (n : Int) ≤ (i : Int) := by omega
  obtain ⟨DX, HDX⟩ : ∃ DX, Hid (DX = cls n (rwF (rdg n dz1) i (fun c => wrap64 (wrap64 (tt * (rdg n dz1) i c) + nth rz c)) n)) := ⟨_, rfl⟩
  obtain ⟨DY, HDY⟩ : ∃ DY, Hid (DY = cls n (rwF (rdg n dz1) i (fun c => nth rz c) n)) := ⟨_, rfl⟩
  have HV : Hid (wrap64 (dt n (rdg n DX)) = wrap64 (wrap64 (tt * wrap64 (dt n (rdg n dz1))) + wrap64 (dt n (rdg n DY)))) := by show _ = _; rw [HDX.out, HDY.out]; exact row_lin hi (rdg n dz1) tt (fun c => nth rz c)
  have HG : Hid (i < n) := hi
  obtain ⟨N, hN⟩ : ∃ N, N = n * n := ⟨_, rfl⟩
  have N36 : N ≤ 36 := by have : n * n ≤ 6 * 6 := Nat.mul_le_mul hn hn; omega
  have HN : Hid (N = n * n ∧ dz1.length = N ∧ rz.length = n) := ⟨hN, by rw [HL1.out, hN], hrl⟩
  have HR : Hid (IsInts w.heap.size w ra rz) := hr
  clear hN hrl hr
  have HZ0 : Hid (cls n (rwF (rdg n dz1) i (fun c => wrap64 (wrap64 (tt * (rdg n dz1) i c) + nth rz c)) 0) = dz1 ∧ cls n (rwF (rdg n dz1) i (fun c => nth rz c) 0) = dz1) := by rw [rwF_zero, rwF_zero]; exact ⟨cls_rdg HL1.out, cls_rdg HL1.out⟩
  have HSh : Hid (∀ v, Below w.heap.size w v → v.cell? ⟨b1, o1, none⟩ = some (.int .i64 (n : Int))) := fun v h => (shp14 HI1.out.1 h).2
  have n1 := Abx.new w (.bool false) (.slice (some ⟨b1, o1, none⟩) 2 sc1) (.slice da1 dz1.length dc1)
  go_enter Try.func6, Try.ntmps6
  go_wp2_with fail
  obtain ⟨wo2, hwo2⟩ : ∃ wo2, wo2 = (w.alloc (.cells #[.bool false, .slice (some ⟨b1, o1, none⟩) 2 sc1, .slice da1 dz1.length dc1] 24)) := ⟨_, rfl⟩
  rw [← hwo2]
  have z3 : w.heap.size + 1 ≤ wo2.heap.size := by rw [hwo2]; simp only [World.size_alloc]; omega
  have B4 : Hid (Abx wo2 (w.heap.size) (.bool false) (.slice (some ⟨b1, o1, none⟩) 2 sc1) (.slice da1 dz1.length dc1)) := by rw [hwo2]; exact n1
  have hb5 : Hid (Below w.heap.size w wo2) := by rw [hwo2]; exact ((Below.refl w.heap.size w).alloc (by omega) (.cells #[.bool false, .slice (some ⟨b1, o1, none⟩) 2 sc1, .slice da1 dz1.length dc1] 24))
  have zwo2 : w.heap.size ≤ wo2.heap.size := hb5.out.size
  clear hwo2 n1
  refine (fact14_any _).mono ?_
  rintro e v1 ⟨rfl, hB⟩
  have z6 : wo2.heap.size ≤ v1.heap.size := hB.size
  have B7 : Hid (Abx v1 (w.heap.size) (.bool false) (.slice (some ⟨b1, o1, none⟩) 2 sc1) (.slice da1 dz1.length dc1)) := B4.out.go hB
  have hb8 : Hid (Below w.heap.size w v1) := hb5.out.trans (hB.mono hb5.out.size)
  clear hB hb5 B4
  have l9 := (B7.out).c0
  have l10 := (B7.out).c1
  have l11 := (B7.out).c2
  go_wp2_with fail
  clear l9 l10 l11
  refine (square_yes n hn (some ⟨b1, o1, none⟩) sc1 da1 dc1 dz1 dz1.length rfl HL1.out _ ((HI1.out.1.below hb8.out).mono hb8.out.size).1).mono ?_
  rintro e v2 ⟨rfl, hB⟩
  have z12 : v1.heap.size ≤ v2.heap.size := hB.size
  have B13 : Hid (Abx v2 (w.heap.size) (.bool false) (.slice (some ⟨b1, o1, none⟩) 2 sc1) (.slice da1 dz1.length dc1)) := B7.out.go hB
  have hb14 : Hid (Below w.heap.size w v2) := hb8.out.trans (hB.mono hb8.out.size)
  clear hB hb8 B7
  have l15 := (B13.out).c0
  have l16 := (B13.out).c1
  have l17 := (B13.out).c2
  have l18 := HSh.out _ hb14.out
  go_wp2_with fail
  clear l15 l16 l17 l18
  refine (copy_c da1 dc1 dz1 (by rw [HN.out.2.1]; omega) _ ((HI1.out.2.1.below hb14.out).mono hb14.out.size).1).mono ?_
  rintro e v3 ⟨xa1, xc1, rfl, hX1, hB⟩
  have z19 : v2.heap.size ≤ v3.heap.size := hB.size
  have B20 : Hid (Abx v3 (w.heap.size) (.bool false) (.slice (some ⟨b1, o1, none⟩) 2 sc1) (.slice da1 dz1.length dc1)) := B13.out.go hB
  have hb21 : Hid (Below w.heap.size w v3) := hb14.out.trans (hB.mono hb14.out.size)
  have L22 : Hid (MidC (v2.heap.size) (v3.heap.size) v3 (xa1) (dz1) (xc1)) := hX1.midc
  clear hB hb14 B13 hX1
  have l23 := (B20.out).c0
  have l24 := (B20.out).c1
  have l25 := (B20.out).c2
  go_wp2_with fail
  clear l23 l24 l25
  refine (copy_c da1 dc1 dz1 (by rw [HN.out.2.1]; omega) _ ((HI1.out.2.1.below hb21.out).mono hb21.out.size).1).mono ?_
  rintro e v4 ⟨ya1, yc1, rfl, hY1, hB⟩
  have z26 : v3.heap.size ≤ v4.heap.size := hB.size
  have B27 : Hid (Abx v4 (w.heap.size) (.bool false) (.slice (some ⟨b1, o1, none⟩) 2 sc1) (.slice da1 dz1.length dc1)) := B20.out.go hB
  have L28 : Hid (MidC (v2.heap.size) (v3.heap.size) v4 (xa1) (dz1) (xc1)) := L22.out.go (by omega) hB
  have hb29 : Hid (Below w.heap.size w v4) := hb21.out.trans (hB.mono hb21.out.size)
  have L30 : Hid (MidC (v3.heap.size) (v4.heap.size) v4 (ya1) (dz1) (yc1)) := hY1.midc
  clear hB hb21 B20 L22 hY1
  have hN0 : 0 < dz1.length := by rw [HN.out.2.1, HN.out.1]; exact Nat.mul_pos (by omega) (by omega)
  obtain ⟨b31, ob31, rfl, _, _, _, _⟩ := L28.out.at (i := 0) hN0
  obtain ⟨b32, ob32, rfl, _, _, _, _⟩ := L30.out.at (i := 0) hN0
  clear hN0
  rw [HN.out.2.1]
  go_wp2_with fail
  have HQ0 : Hid (Abx v4 (w.heap.size) (.bool false) (.slice (some ⟨b1, o1, none⟩) 2 sc1) (.slice da1 dz1.length dc1) ∧ MidC (v2.heap.size) (v3.heap.size) v4 (some ⟨b31, ob31, none⟩) (cls n (rwF (rdg n dz1) i (fun c => wrap64 (wrap64 (tt * (rdg n dz1) i c) + nth rz c)) 0)) (xc1) ∧ MidC (v3.heap.size) (v4.heap.size) v4 (some ⟨b32, ob32, none⟩) (cls n (rwF (rdg n dz1) i (fun c => nth rz c) 0)) (yc1) ∧ Below w.heap.size w v4 ∧ v4.heap.size ≤ v4.heap.size) := ⟨B27.out, by rw [HZ0.out.1]; exact L28.out, by rw [HZ0.out.2]; exact L30.out, hb29.out, Nat.le_refl _⟩
  have hsep : v3.heap.size ≤ v3.heap.size := by omega
  have hlx : w.heap.size ≤ v2.heap.size := by omega
  have hab : w.heap.size < v2.heap.size := by omega
  have hyv : v4.heap.size ≤ v4.heap.size := by omega
  go_loopw [14] (fun q wr => ∃ t : Nat, t ≤ n ∧ q = .int .i64 t ∧ Abx wr (w.heap.size) (.bool false) (.slice (some ⟨b1, o1, none⟩) 2 sc1) (.slice da1 dz1.length dc1) ∧ MidC (v2.heap.size) (v3.heap.size) wr (some ⟨b31, ob31, none⟩) (cls n (rwF (rdg n dz1) i (fun c => wrap64 (wrap64 (tt * (rdg n dz1) i c) + nth rz c)) t)) (xc1) ∧ MidC (v3.heap.size) (v4.heap.size) wr (some ⟨b32, ob32, none⟩) (cls n (rwF (rdg n dz1) i (fun c => nth rz c) t)) (yc1) ∧ Below w.heap.size w wr ∧ v4.heap.size ≤ wr.heap.size) (fun q _ => n - (intOf q).toNat)
  case atStart => exact ⟨0, Nat.zero_le _, rfl, HQ0.out⟩
  case round =>
    clear HQ0
    obtain ⟨t, ht, rfl, hQ⟩ := hrel
    have HQ : Hid (Abx wr (w.heap.size) (.bool false) (.slice (some ⟨b1, o1, none⟩) 2 sc1) (.slice da1 dz1.length dc1) ∧ MidC (v2.heap.size) (v3.heap.size) wr (some ⟨b31, ob31, none⟩) (cls n (rwF (rdg n dz1) i (fun c => wrap64 (wrap64 (tt * (rdg n dz1) i c) + nth rz c)) t)) (xc1) ∧ MidC (v3.heap.size) (v4.heap.size) wr (some ⟨b32, ob32, none⟩) (cls n (rwF (rdg n dz1) i (fun c => nth rz c) t)) (yc1) ∧ Below w.heap.size w wr ∧ v4.heap.size ≤ wr.heap.size) := hQ
    clear hQ
    by_cases hlt : t < n
    · obtain ⟨Pi, hPi⟩ : ∃ P, P = i * n := ⟨_, rfl⟩
      obtain ⟨K, hK⟩ : ∃ K, K = Pi + t := ⟨_, rfl⟩
      have hPii : (i : Int) * (n : Int) = (Pi : Int) := by rw [hPi]; simp
      have hKi : (Pi : Int) + (t : Int) = (K : Int) := by omega
      have bi : K < N := by rw [hK, hPi, HN.out.1]; exact row_lt HG.out hlt
      have hw1 : IntKind.i64.wrap (Pi : Int) = (Pi : Int) := by rw [IntWalk.i64_left]; exact w_small (by omega) (by omega)
      have hw2 : IntKind.i64.wrap (K : Int) = (K : Int) := by rw [IntWalk.i64_left]; exact w_small (by omega) (by omega)
      have bii : (K : Int) < (N : Int) := by omega
      have bti : (t : Int) < (n : Int) := by omega
      have HP : Hid (K = i * n + t) := by show _ = _; rw [hK, hPi]
      obtain ⟨bd, od, rfl, _, _⟩ := (HI1.out.2.1.1).at (q := 0) (by rw [HN.out.2.1]; omega)
      obtain ⟨br, orr, rfl, _, _⟩ := HR.out.at (q := 0) (by rw [HN.out.2.2]; omega)
      obtain ⟨va', hva⟩ : ∃ x, x = nth dz1 K := ⟨_, rfl⟩
      obtain ⟨rv, hrv⟩ : ∃ x, x = nth rz t := ⟨_, rfl⟩
      obtain ⟨x1, hx1⟩ : ∃ x, IntKind.i64.wrap (tt * va') = x := ⟨_, rfl⟩
      obtain ⟨xv, hxv⟩ : ∃ x, IntKind.i64.wrap (x1 + rv) = x := ⟨_, rfl⟩
      have HVa : Hid (xv = (fun c => wrap64 (wrap64 (tt * (rdg n dz1) i c) + nth rz c)) t ∧ rv = (fun c => nth rz c) t) := ⟨by show _ = wrap64 (wrap64 (tt * rdg n dz1 i t) + nth rz t); rw [← hxv, ← hx1, hva, hrv, HP.out, IntWalk.i64_left, IntWalk.i64_left, rdg_at HG.out hlt], hrv⟩
      have HCd : Hid (∀ v, Below w.heap.size w v → v.cell? ⟨bd, od + K, none⟩ = some (.int .i64 va') ∧ v.cell? ⟨br, orr + t, none⟩ = some (.int .i64 rv)) := fun v hv => ⟨by rw [hva]; exact cel14 HI1.out.2.1.1 hv (by rw [HN.out.2.1]; exact bi), by rw [hrv]; exact cel14 HR.out hv (by rw [HN.out.2.2]; exact hlt)⟩
      clear hPi hK hva hrv
      obtain ⟨m1, m2, m3, m4⟩ := mid14 (p := K) HQ.out.2.1 (by rw [cls_len, ← HN.out.1]; omega)
      have d0 := (HCd.out _ HQ.out.2.2.2.1).1
      have d1 := (HCd.out _ HQ.out.2.2.2.1).2
      have e2 := HQ.out.1.c2
      rw [HN.out.2.1] at e2
      go_wp2_with fail
      refine anyT_begin 22 (fun w' => w'.cell? ⟨w.heap.size, 2, none⟩ = some (.slice (some ⟨bd, od, none⟩) N dc1) ∧ w'.cell? ⟨bd, od + K, none⟩ = some (.int .i64 va') ∧ w'.cell? ⟨br, orr + t, none⟩ = some (.int .i64 rv)) 24 #[false, false, false, false, false, false, false, false, false, false, false, false, false, false, false, false, false, false, false, false, false, false, false, false] (by kernel_rfl) rfl rfl ?_
      refine anyT_put 0 58 ?rv0 #[true, false, false, false, false, false, false, false, false, false, false, false, false, false, false, false, false, false, false, false, false, false, false, false] rfl rfl rfl (by kernel_rfl) (by kernel_rfl) (by kernel_rfl) (fun _ _ _ h => h) (by decide) ?ry0 (fun _ => ⟨e2, d0, d1⟩) ?rm0
      case ry0 => first | exact Or.inl ⟨by rfl, by intro w'; go_simp; first | done | rfl⟩
      case rm0 =>
      simp only [Act.put, List.setIfInBounds_toArray, List.set_cons_zero, List.set_cons_succ]
      refine anyT_put 1 59 ?rv1 #[true, true, false, false, false, false, false, false, false, false, false, false, false, false, false, false, false, false, false, false, false, false, false, false] rfl rfl rfl (by kernel_rfl) (by kernel_rfl) (by kernel_rfl) (fun _ _ _ h => h) (by decide) ?ry1 (fun _ => ⟨e2, d0, d1⟩) ?rm1
      case ry1 => first | exact Or.inl ⟨by rfl, by intro w'; go_simp; first | done | rfl⟩
      case rm1 =>
      simp only [Act.put, List.setIfInBounds_toArray, List.set_cons_zero, List.set_cons_succ]
      refine anyT_put 2 60 ?rv2 #[true, true, true, false, false, false, false, false, false, false, false, false, false, false, false, false, false, false, false, false, false, false, false, false] rfl rfl rfl (by kernel_rfl) (by kernel_rfl) (by kernel_rfl) (fun _ _ _ h => h) (by decide) ?ry2 (fun _ => ⟨e2, d0, d1⟩) ?rm2
      case ry2 => first | exact Or.inl ⟨by rfl, by intro w'; go_simp; first | done | rfl⟩
      case rm2 =>
      simp only [Act.put, List.setIfInBounds_toArray, List.set_cons_zero, List.set_cons_succ]
      refine anyT_put 3 61 ?rv3 #[true, true, true, true, false, false, false, false, false, false, false, false, false, false, false, false, false, false, false, false, false, false, false, false] rfl rfl rfl (by kernel_rfl) (by kernel_rfl) (by kernel_rfl) (fun _ _ _ h => h) (by decide) ?ry3 (fun _ => ⟨e2, d0, d1⟩) ?rm3
      case ry3 => first | exact Or.inl ⟨by rfl, by intro w'; go_simp; first | done | rfl⟩
      case rm3 =>
      simp only [Act.put, List.setIfInBounds_toArray, List.set_cons_zero, List.set_cons_succ]
      refine anyT_put 4 62 ?rv4 #[true, true, true, true, true, false, false, false, false, false, false, false, false, false, false, false, false, false, false, false, false, false, false, false] rfl rfl rfl (by kernel_rfl) (by kernel_rfl) (by kernel_rfl) (fun _ _ _ h => h) (by decide) ?ry4 (fun _ => ⟨e2, d0, d1⟩) ?rm4
      case ry4 => first | exact Or.inl ⟨by rfl, by intro w'; go_simp; first | done | rfl⟩
      case rm4 =>
      simp only [Act.put, List.setIfInBounds_toArray, List.set_cons_zero, List.set_cons_succ]
      refine anyT_put 5 63 ?rv5 #[true, true, true, true, true, true, false, false, false, false, false, false, false, false, false, false, false, false, false, false, false, false, false, false] rfl rfl rfl (by kernel_rfl) (by kernel_rfl) (by kernel_rfl) (fun _ _ _ h => h) (by decide) ?ry5 (fun _ => ⟨e2, d0, d1⟩) ?rm5
      case ry5 => first | exact Or.inl ⟨by rfl, by intro w'; go_simp; first | done | rfl⟩
      case rm5 =>
      simp only [Act.put, List.setIfInBounds_toArray, List.set_cons_zero, List.set_cons_succ]
      refine anyT_put 6 64 ?rv6 #[true, true, true, true, true, true, true, false, false, false, false, false, false, false, false, false, false, false, false, false, false, false, false, false] rfl rfl rfl (by kernel_rfl) (by kernel_rfl) (by kernel_rfl) (fun _ _ _ h => h) (by decide) ?ry6 (fun _ => ⟨e2, d0, d1⟩) ?rm6
      case ry6 => first | exact Or.inl ⟨by rfl, by intro w'; go_simp; first | done | rfl⟩
      case rm6 =>
      simp only [Act.put, List.setIfInBounds_toArray, List.set_cons_zero, List.set_cons_succ]
      refine anyT_put 7 65 ?rv7 #[true, true, true, true, true, true, true, true, false, false, false, false, false, false, false, false, false, false, false, false, false, false, false, false] rfl rfl rfl (by kernel_rfl) (by kernel_rfl) (by kernel_rfl) (fun _ _ _ h => h) (by decide) ?ry7 (fun _ => ⟨e2, d0, d1⟩) ?rm7
      case ry7 => first | exact Or.inl ⟨by rfl, by intro w'; go_simp; first | done | rfl⟩
      case rm7 =>
      simp only [Act.put, List.setIfInBounds_toArray, List.set_cons_zero, List.set_cons_succ]
      refine anyT_take 8 66 ?rv8 #[true, true, true, true, true, true, true, true, true, false, false, false, false, false, false, false, false, false, false, false, false, false, false, false] rfl rfl rfl (by kernel_rfl) (by kernel_rfl) (by kernel_rfl) (fun _ _ _ h => h) (by kernel_rfl) (by decide) (by kernel_rfl) ?ry8 (⟨e2, d0, d1⟩) ?rm8
      case ry8 => first | exact Or.inl ⟨by rfl, by intro w' hw'; (try dsimp only at hw'); go_simp; first | done | rfl⟩
      case rm8 =>
      simp only [Act.put, List.setIfInBounds_toArray, List.set_cons_zero, List.set_cons_succ]
      refine anyT_put 9 67 ?rv9 #[true, true, true, true, true, true, true, true, true, true, false, false, false, false, false, false, false, false, false, false, false, false, false, false] rfl rfl rfl (by kernel_rfl) (by kernel_rfl) (by kernel_rfl) (fun _ _ _ h => h) (by decide) ?ry9 (fun _ => ⟨e2, d0, d1⟩) ?rm9
      case ry9 => first | exact Or.inl ⟨by rfl, by intro w'; go_simp; first | done | rfl⟩
      case rm9 =>
      simp only [Act.put, List.setIfInBounds_toArray, List.set_cons_zero, List.set_cons_succ]
      refine anyT_put 10 68 ?rv10 #[true, true, true, true, true, true, true, true, true, true, true, false, false, false, false, false, false, false, false, false, false, false, false, false] rfl rfl rfl (by kernel_rfl) (by kernel_rfl) (by kernel_rfl) (fun _ _ _ h => h) (by decide) ?ry10 (fun _ => ⟨e2, d0, d1⟩) ?rm10
      case ry10 => first | exact Or.inl ⟨by rfl, by intro w'; go_simp; first | done | rfl⟩
      case rm10 =>
      simp only [Act.put, List.setIfInBounds_toArray, List.set_cons_zero, List.set_cons_succ]
      refine anyT_put 11 69 ?rv11 #[true, true, true, true, true, true, true, true, true, true, true, true, false, false, false, false, false, false, false, false, false, false, false, false] rfl rfl rfl (by kernel_rfl) (by kernel_rfl) (by kernel_rfl) (fun _ _ _ h => h) (by decide) ?ry11 (fun _ => ⟨e2, d0, d1⟩) ?rm11
      case ry11 => first | exact Or.inl ⟨by rfl, by intro w'; go_simp; first | done | rfl⟩
      case rm11 =>
      simp only [Act.put, List.setIfInBounds_toArray, List.set_cons_zero, List.set_cons_succ]
      refine anyT_put 12 70 ?rv12 #[true, true, true, true, true, true, true, true, true, true, true, true, true, false, false, false, false, false, false, false, false, false, false, false] rfl rfl rfl (by kernel_rfl) (by kernel_rfl) (by kernel_rfl) (fun _ _ _ h => h) (by decide) ?ry12 (fun _ => ⟨e2, d0, d1⟩) ?rm12
      case ry12 => first | exact Or.inl ⟨by rfl, by intro w'; go_simp; first | done | rfl⟩
      case rm12 =>
      simp only [Act.put, List.setIfInBounds_toArray, List.set_cons_zero, List.set_cons_succ]
      refine anyT_put 13 71 ?rv13 #[true, true, true, true, true, true, true, true, true, true, true, true, true, true, false, false, false, false, false, false, false, false, false, false] rfl rfl rfl (by kernel_rfl) (by kernel_rfl) (by kernel_rfl) (fun _ _ _ h => h) (by decide) ?ry13 (fun _ => ⟨e2, d0, d1⟩) ?rm13
      case ry13 => first | exact Or.inl ⟨by rfl, by intro w'; go_simp; first | done | rfl⟩
      case rm13 =>
      simp only [Act.put, List.setIfInBounds_toArray, List.set_cons_zero, List.set_cons_succ]
      refine anyT_put 14 72 ?rv14 #[true, true, true, true, true, true, true, true, true, true, true, true, true, true, true, false, false, false, false, false, false, false, false, false] rfl rfl rfl (by kernel_rfl) (by kernel_rfl) (by kernel_rfl) (fun _ _ _ h => h) (by decide) ?ry14 (fun _ => ⟨e2, d0, d1⟩) ?rm14
      case ry14 => first | exact Or.inl ⟨by rfl, by intro w'; go_simp; first | done | rfl⟩
      case rm14 =>
      simp only [Act.put, List.setIfInBounds_toArray, List.set_cons_zero, List.set_cons_succ]
      refine anyT_take 15 73 ?rv15 #[true, true, true, true, true, true, true, true, true, true, true, true, true, true, true, true, false, false, false, false, false, false, false, false] rfl rfl rfl (by kernel_rfl) (by kernel_rfl) (by kernel_rfl) (fun _ _ _ h => h) (by kernel_rfl) (by decide) (by kernel_rfl) ?ry15 (⟨e2, d0, d1⟩) ?rm15
      case ry15 => first | exact Or.inl ⟨by rfl, by intro w' hw'; (try dsimp only at hw'); go_simp; first | done | rfl⟩
      case rm15 =>
      simp only [Act.put, List.setIfInBounds_toArray, List.set_cons_zero, List.set_cons_succ]
      refine anyT_put 16 74 ?rv16 #[true, true, true, true, true, true, true, true, true, true, true, true, true, true, true, true, true, false, false, false, false, false, false, false] rfl rfl rfl (by kernel_rfl) (by kernel_rfl) (by kernel_rfl) (fun _ _ _ h => h) (by decide) ?ry16 (fun _ => ⟨e2, d0, d1⟩) ?rm16
      case ry16 => first | exact Or.inl ⟨by rfl, by intro w'; go_simp; first | done | rfl⟩
      case rm16 =>
      simp only [Act.put, List.setIfInBounds_toArray, List.set_cons_zero, List.set_cons_succ]
      refine anyT_put 17 75 ?rv17 #[true, true, true, true, true, true, true, true, true, true, true, true, true, true, true, true, true, true, false, false, false, false, false, false] rfl rfl rfl (by kernel_rfl) (by kernel_rfl) (by kernel_rfl) (fun _ _ _ h => h) (by decide) ?ry17 (fun _ => ⟨e2, d0, d1⟩) ?rm17
      case ry17 => first | exact Or.inl ⟨by rfl, by intro w'; go_simp; first | done | rfl⟩
      case rm17 =>
      simp only [Act.put, List.setIfInBounds_toArray, List.set_cons_zero, List.set_cons_succ]
      refine anyT_put 18 76 ?rv18 #[true, true, true, true, true, true, true, true, true, true, true, true, true, true, true, true, true, true, true, false, false, false, false, false] rfl rfl rfl (by kernel_rfl) (by kernel_rfl) (by kernel_rfl) (fun _ _ _ h => h) (by decide) ?ry18 (fun _ => ⟨e2, d0, d1⟩) ?rm18
      case ry18 => first | exact Or.inl ⟨by rfl, by intro w'; go_simp; first | done | rfl⟩
      case rm18 =>
      simp only [Act.put, List.setIfInBounds_toArray, List.set_cons_zero, List.set_cons_succ]
      refine anyT_put 19 77 ?rv19 #[true, true, true, true, true, true, true, true, true, true, true, true, true, true, true, true, true, true, true, true, false, false, false, false] rfl rfl rfl (by kernel_rfl) (by kernel_rfl) (by kernel_rfl) (fun _ _ _ h => h) (by decide) ?ry19 (fun _ => ⟨e2, d0, d1⟩) ?rm19
      case ry19 => first | exact Or.inl ⟨by rfl, by intro w'; go_simp; first | done | rfl⟩
      case rm19 =>
      simp only [Act.put, List.setIfInBounds_toArray, List.set_cons_zero, List.set_cons_succ]
      refine anyT_take 20 78 ?rv20 #[true, true, true, true, true, true, true, true, true, true, true, true, true, true, true, true, true, true, true, true, true, false, false, false] rfl rfl rfl (by kernel_rfl) (by kernel_rfl) (by kernel_rfl) (fun _ _ _ h => h) (by kernel_rfl) (by decide) (by kernel_rfl) ?ry20 (⟨e2, d0, d1⟩) ?rm20
      case ry20 => first | exact Or.inl ⟨by rfl, by intro w' hw'; (try dsimp only at hw'); go_simp; first | done | rfl⟩
      case rm20 =>
      simp only [Act.put, List.setIfInBounds_toArray, List.set_cons_zero, List.set_cons_succ]
      refine anyT_put 21 79 ?rv21 #[true, true, true, true, true, true, true, true, true, true, true, true, true, true, true, true, true, true, true, true, true, true, false, false] rfl rfl rfl (by kernel_rfl) (by kernel_rfl) (by kernel_rfl) (fun _ _ _ h => h) (by decide) ?ry21 (fun _ => ⟨e2, d0, d1⟩) ?rm21
      case ry21 => first | exact Or.inl ⟨by rfl, by intro w'; go_simp; first | done | rfl⟩
      case rm21 =>
      simp only [Act.put, List.setIfInBounds_toArray, List.set_cons_zero, List.set_cons_succ]
      refine anyT_one 22 #[true, true, true, true, true, true, true, true, true, true, true, true, true, true, true, true, true, true, true, true, true, true, true, false] (by kernel_rfl) rfl rfl (fun K hK => ?_)
      go_simp
      refine hK.out _ _ (fun h => absurd h (by decide)) ?_
      clear hK K
      refine anyT_one 23 #[true, true, true, true, true, true, true, true, true, true, true, true, true, true, true, true, true, true, true, true, true, true, true, true] (by kernel_rfl) rfl rfl (fun K hK => ?_)
      go_simp
      refine hK.out _ _ (fun h => absurd h (by decide)) ?_
      clear hK K
      refine anyT_done (by kernel_rfl) ?_
      obtain ⟨w1, HW1⟩ : ∃ x, Hid (x = (wr.setCell ⟨b31, ob31 + K, none⟩ (.int .i64 xv)).drew) := ⟨_, rfl⟩
      rw [← HW1.out]
      have HQ1 : Hid (Abx w1 (w.heap.size) (.bool false) (.slice (some ⟨b1, o1, none⟩) 2 sc1) (.slice (some ⟨bd, od, none⟩) dz1.length dc1) ∧ MidC (v2.heap.size) (v3.heap.size) w1 (some ⟨b31, ob31, none⟩) (cls n (ptg (rwF (rdg n dz1) i (fun c => wrap64 (wrap64 (tt * (rdg n dz1) i c) + nth rz c)) t) i t xv)) (xc1) ∧ MidC (v3.heap.size) (v4.heap.size) w1 (some ⟨b32, ob32, none⟩) (cls n (rwF (rdg n dz1) i (fun c => nth rz c) t)) (yc1) ∧ Below w.heap.size w w1 ∧ v4.heap.size ≤ w1.heap.size) := by
        show _ ∧ _
        rw [HW1.out]
        exact ⟨(HQ.out.1.ot (a := ⟨b31, ob31 + K, none⟩) (by show w.heap.size ≠ b31; omega) _).dr, MidC.go (by rw [← cls_set HG.out hlt, ← HP.out]; exact HQ.out.2.1.put (by rw [cls_len, ← HN.out.1]; omega) xv) (by rw [World.size_setCell]; have := HQ.out.2.2.2.2; omega) (Below.refl _ _).drew, MidC.go (HQ.out.2.2.1.s1 (p := ⟨b31, ob31 + K, none⟩) (by show b31 < _ ∨ _ ≤ b31; omega) _) (by rw [World.size_setCell]; have := HQ.out.2.2.2.2; omega) (Below.refl _ _).drew, (HQ.out.2.2.2.1.setCell (p := ⟨b31, ob31 + K, none⟩) (by show w.heap.size ≤ b31; omega) _).drew, by show _ ≤ (wr.setCell ⟨b31, ob31 + K, none⟩ _).heap.size; rw [World.size_setCell]; exact HQ.out.2.2.2.2⟩
      clear HW1 HQ m1 m2 m3 m4 d0 d1 e2
      obtain ⟨m1, m2, m3, m4⟩ := mid14 (p := K) HQ1.out.2.2.1 (by rw [cls_len, ← HN.out.1]; omega)
      have d1 := (HCd.out _ HQ1.out.2.2.2.1).2
      go_upto_region 12 with fail
      obtain ⟨w2, HW2⟩ : ∃ x, Hid (x = w1.setCell ⟨b32, ob32 + K, none⟩ (.int .i64 rv)) := ⟨_, rfl⟩
      rw [← HW2.out]
      have HQ2 : Hid (Abx w2 (w.heap.size) (.bool false) (.slice (some ⟨b1, o1, none⟩) 2 sc1) (.slice (some ⟨bd, od, none⟩) dz1.length dc1) ∧ MidC (v2.heap.size) (v3.heap.size) w2 (some ⟨b31, ob31, none⟩) (cls n (ptg (rwF (rdg n dz1) i (fun c => wrap64 (wrap64 (tt * (rdg n dz1) i c) + nth rz c)) t) i t xv)) (xc1) ∧ MidC (v3.heap.size) (v4.heap.size) w2 (some ⟨b32, ob32, none⟩) (cls n (ptg (rwF (rdg n dz1) i (fun c => nth rz c) t) i t rv)) (yc1) ∧ Below w.heap.size w w2 ∧ v4.heap.size ≤ w2.heap.size) := by
        show _ ∧ _
        rw [HW2.out]
        exact ⟨HQ1.out.1.ot (a := ⟨b32, ob32 + K, none⟩) (by show w.heap.size ≠ b32; omega) _, HQ1.out.2.1.s1 (p := ⟨b32, ob32 + K, none⟩) (by show b32 < _ ∨ _ ≤ b32; omega) _, by rw [← cls_set HG.out hlt, ← HP.out]; exact HQ1.out.2.2.1.put (by rw [cls_len, ← HN.out.1]; omega) rv, HQ1.out.2.2.2.1.setCell (p := ⟨b32, ob32 + K, none⟩) (by show w.heap.size ≤ b32; omega) _, by rw [World.size_setCell]; exact HQ1.out.2.2.2.2⟩
      clear HW2 HQ1 m1 m2 m3 m4 d1
      rw [HVa.out.1, HVa.out.2, rwF_next, rwF_next] at HQ2
      go_wp2_with fail
      exact ⟨⟨t + 1, by omega, by go_num, HQ2.out⟩, by simp [intOf]; omega⟩
    · obtain rfl : n = t := by omega
      have BQ : Hid (Abx wr (w.heap.size) (.bool false) (.slice (some ⟨b1, o1, none⟩) 2 sc1) (.slice da1 dz1.length dc1)) := HQ.out.1
      have LX : Hid (MidC (v2.heap.size) (v3.heap.size) wr (some ⟨b31, ob31, none⟩) DX (xc1)) := by rw [HDX.out]; exact HQ.out.2.1
      have LY : Hid (MidC (v3.heap.size) (v4.heap.size) wr (some ⟨b32, ob32, none⟩) DY (yc1)) := by rw [HDY.out]; exact HQ.out.2.2.1
      have hbQ : Hid (Below w.heap.size w wr) := HQ.out.2.2.2.1
      have zq : v4.heap.size ≤ wr.heap.size := HQ.out.2.2.2.2
      have HLX : Hid (DX.length = N ∧ DY.length = N) := ⟨by rw [HDX.out, cls_len, HN.out.1], by rw [HDY.out, cls_len, HN.out.1]⟩
      clear HQ B27 L28 L30 hb29
      go_wp2_with fail
      have hb0r1 : Below wr.heap.size wr wr.drew := (Below.refl _ wr).drew
      refine anyC_begin (fun w' => w'.cell? ⟨w.heap.size, 0, none⟩ = some (.bool false) ∧ w'.cell? ⟨w.heap.size, 1, none⟩ = some (.slice (some ⟨b1, o1, none⟩) 2 sc1) ∧ w'.cell? ⟨w.heap.size, 2, none⟩ = some (.slice da1 dz1.length dc1)) 15 #[false, false, false, false, false, false, false, false, false, false, false, false, false, false, false] (by kernel_rfl) rfl rfl ?_
      refine anyC_put 0 92 ?rv24 #[true, false, false, false, false, false, false, false, false, false, false, false, false, false, false] rfl rfl rfl (by kernel_rfl) (by kernel_rfl) (by kernel_rfl) (fun _ _ _ h => h) ?ry24 (⟨(BQ.out.go hb0r1).c0, (BQ.out.go hb0r1).c1, (BQ.out.go hb0r1).c2⟩) ?rm24
      case ry24 => first | exact Or.inl ⟨by rfl, by intro w'; go_simp; first | done | rfl⟩
      case rm24 =>
      simp only [Act.put, List.setIfInBounds_toArray, List.set_cons_zero, List.set_cons_succ]
      refine anyC_put 1 93 ?rv25 #[true, true, false, false, false, false, false, false, false, false, false, false, false, false, false] rfl rfl rfl (by kernel_rfl) (by kernel_rfl) (by kernel_rfl) (fun _ _ _ h => h) ?ry25 (⟨(BQ.out.go hb0r1).c0, (BQ.out.go hb0r1).c1, (BQ.out.go hb0r1).c2⟩) ?rm25
      case ry25 => first | exact Or.inl ⟨by rfl, by intro w'; go_simp; first | done | rfl⟩
      case rm25 =>
      simp only [Act.put, List.setIfInBounds_toArray, List.set_cons_zero, List.set_cons_succ]
      refine anyC_put 4 96 ?rv26 #[true, true, false, false, true, false, false, false, false, false, false, false, false, false, false] rfl rfl rfl (by kernel_rfl) (by kernel_rfl) (by kernel_rfl) (fun _ _ _ h => h) ?ry26 (⟨(BQ.out.go hb0r1).c0, (BQ.out.go hb0r1).c1, (BQ.out.go hb0r1).c2⟩) ?rm26
      case ry26 => first | exact Or.inl ⟨by rfl, by intro w'; go_simp; first | done | rfl⟩
      case rm26 =>
      simp only [Act.put, List.setIfInBounds_toArray, List.set_cons_zero, List.set_cons_succ]
      refine anyC_take 5 97 ?rv27 #[true, true, false, false, true, true, false, false, false, false, false, false, false, false, false] rfl rfl rfl (by kernel_rfl) (by kernel_rfl) (by kernel_rfl) (fun _ _ _ h => h) ?ry27 (⟨(BQ.out.go hb0r1).c0, (BQ.out.go hb0r1).c1, (BQ.out.go hb0r1).c2⟩) ?rm27
      case ry27 => first | exact Or.inl ⟨by rfl, by intro w' hw'; (try dsimp only at hw'); go_simp; first | done | rfl⟩
      case rm27 =>
      simp only [Act.put, List.setIfInBounds_toArray, List.set_cons_zero, List.set_cons_succ]
      refine anyC_put 8 100 ?rv28 #[true, true, false, false, true, true, false, false, true, false, false, false, false, false, false] rfl rfl rfl (by kernel_rfl) (by kernel_rfl) (by kernel_rfl) (fun _ _ _ h => h) ?ry28 (⟨(BQ.out.go hb0r1).c0, (BQ.out.go hb0r1).c1, (BQ.out.go hb0r1).c2⟩) ?rm28
      case ry28 => first | exact Or.inl ⟨by rfl, by intro w'; go_simp; first | done | rfl⟩
      case rm28 =>
      simp only [Act.put, List.setIfInBounds_toArray, List.set_cons_zero, List.set_cons_succ]
      refine anyC_put 9 101 ?rv29 #[true, true, false, false, true, true, false, false, true, true, false, false, false, false, false] rfl rfl rfl (by kernel_rfl) (by kernel_rfl) (by kernel_rfl) (fun _ _ _ h => h) ?ry29 (⟨(BQ.out.go hb0r1).c0, (BQ.out.go hb0r1).c1, (BQ.out.go hb0r1).c2⟩) ?rm29
      case ry29 => first | exact Or.inl ⟨by rfl, by intro w'; go_simp; first | done | rfl⟩
      case rm29 =>
      simp only [Act.put, List.setIfInBounds_toArray, List.set_cons_zero, List.set_cons_succ]
      refine anyC_one 2 #[true, true, true, false, true, true, false, false, true, true, false, false, false, false, false] (by kernel_rfl) rfl rfl (fun K hK => ?_)
      go_simp
      go_wp2_with (go_at_call 18; refine (sqr_any n (some ⟨b31, ob31, none⟩) N (xc1) _).mono ?_; rintro e y1r1 ⟨xs1, rfl, hSxs1, hBy1r1⟩)
      have hby1r1 : Below wr.heap.size wr y1r1 := hb0r1.trans (hBy1r1.mono hb0r1.size)
      refine hK.out _ _ (⟨(BQ.out.go hby1r1).c0, (BQ.out.go hby1r1).c1, (BQ.out.go hby1r1).c2⟩) ?_
      clear hK K
      refine anyC_one 3 #[true, true, true, true, true, true, false, false, true, true, false, false, false, false, false] (by kernel_rfl) rfl rfl (fun K hK => ?_)
      go_simp
      go_wp2_with (go_at_call 16; refine (sdet_any n hn xs1 2 (some ⟨b31, ob31, none⟩) (xc1) DX N HLX.out.1 (HLX.out.1.trans HN.out.1) _ hSxs1.1.ints ((LX.out.go (by omega) hby1r1).is (by have := hby1r1.size; omega)).1).mono ?_; rintro e y2r1 ⟨rfl, hBy2r1⟩)
      have hby2r1 : Below wr.heap.size wr y2r1 := hby1r1.trans (hBy2r1.mono hby1r1.size)
      refine hK.out _ _ (⟨(BQ.out.go hby2r1).c0, (BQ.out.go hby2r1).c1, (BQ.out.go hby2r1).c2⟩) ?_
      clear hK K
      refine anyC_one 6 #[true, true, true, true, true, true, true, false, true, true, false, false, false, false, false] (by kernel_rfl) rfl rfl (fun K hK => ?_)
      go_simp
      go_wp2_with (go_at_call 16; refine (sdet_any n hn (some ⟨b1, o1, none⟩) sc1 da1 dc1 dz1 dz1.length rfl HL1.out _ ((HI1.out.1.below (hbQ.out.trans (hby2r1.mono hbQ.out.size))).mono (hbQ.out.trans (hby2r1.mono hbQ.out.size)).size).1 ((HI1.out.2.1.below (hbQ.out.trans (hby2r1.mono hbQ.out.size))).mono (hbQ.out.trans (hby2r1.mono hbQ.out.size)).size).1).mono ?_; rintro e y3r1 ⟨rfl, hBy3r1⟩)
      have hby3r1 : Below wr.heap.size wr y3r1 := hby2r1.trans (hBy3r1.mono hby2r1.size)
      refine hK.out _ _ (⟨(BQ.out.go hby3r1).c0, (BQ.out.go hby3r1).c1, (BQ.out.go hby3r1).c2⟩) ?_
      clear hK K
      refine anyC_put 7 99 ?rv33 #[true, true, true, true, true, true, true, true, true, true, false, false, false, false, false] rfl rfl rfl (by kernel_rfl) (by kernel_rfl) (by kernel_rfl) (fun _ _ _ h => h) ?ry33 (⟨(BQ.out.go hby3r1).c0, (BQ.out.go hby3r1).c1, (BQ.out.go hby3r1).c2⟩) ?rm33
      case ry33 => first | exact Or.inl ⟨by rfl, by intro w'; go_simp; first | done | rfl⟩
      case rm33 =>
      simp only [Act.put, List.setIfInBounds_toArray, List.set_cons_zero, List.set_cons_succ]
      refine anyC_one 10 #[true, true, true, true, true, true, true, true, true, true, true, false, false, false, false] (by kernel_rfl) rfl rfl (fun K hK => ?_)
      go_simp
      go_wp2_with (go_at_call 18; refine (sqr_any n (some ⟨b32, ob32, none⟩) N (yc1) _).mono ?_; rintro e y4r1 ⟨xs2, rfl, hSxs2, hBy4r1⟩)
      have hby4r1 : Below wr.heap.size wr y4r1 := hby3r1.trans (hBy4r1.mono hby3r1.size)
      refine hK.out _ _ (⟨(BQ.out.go hby4r1).c0, (BQ.out.go hby4r1).c1, (BQ.out.go hby4r1).c2⟩) ?_
      clear hK K
      refine anyC_one 11 #[true, true, true, true, true, true, true, true, true, true, true, true, false, false, false] (by kernel_rfl) rfl rfl (fun K hK => ?_)
      go_simp
      go_wp2_with (go_at_call 16; refine (sdet_any n hn xs2 2 (some ⟨b32, ob32, none⟩) (yc1) DY N HLX.out.2 (HLX.out.2.trans HN.out.1) _ hSxs2.1.ints ((LY.out.go (by omega) hby4r1).is (by have := hby4r1.size; omega)).1).mono ?_; rintro e y5r1 ⟨rfl, hBy5r1⟩)
      have hby5r1 : Below wr.heap.size wr y5r1 := hby4r1.trans (hBy5r1.mono hby4r1.size)
      refine hK.out _ _ (⟨(BQ.out.go hby5r1).c0, (BQ.out.go hby5r1).c1, (BQ.out.go hby5r1).c2⟩) ?_
      clear hK K
      refine anyC_put 12 104 ?rv36 #[true, true, true, true, true, true, true, true, true, true, true, true, true, false, false] rfl rfl rfl (by kernel_rfl) (by kernel_rfl) (by kernel_rfl) (fun _ _ _ h => h) ?ry36 (⟨(BQ.out.go hby5r1).c0, (BQ.out.go hby5r1).c1, (BQ.out.go hby5r1).c2⟩) ?rm36
      case ry36 => first | exact Or.inl ⟨by rfl, by intro w'; go_simp; first | done | rfl⟩
      case rm36 =>
      simp only [Act.put, List.setIfInBounds_toArray, List.set_cons_zero, List.set_cons_succ]
      refine anyC_put 13 105 ?rv37 #[true, true, true, true, true, true, true, true, true, true, true, true, true, true, false] rfl rfl rfl (by kernel_rfl) (by kernel_rfl) (by kernel_rfl) (fun _ _ _ h => h) ?ry37 (⟨(BQ.out.go hby5r1).c0, (BQ.out.go hby5r1).c1, (BQ.out.go hby5r1).c2⟩) ?rm37
      case ry37 => first | exact Or.inl ⟨by rfl, by intro w'; go_simp; first | done | rfl⟩
      case rm37 =>
      simp only [Act.put, List.setIfInBounds_toArray, List.set_cons_zero, List.set_cons_succ]
      refine anyC_put 14 8 ?rv38 #[true, true, true, true, true, true, true, true, true, true, true, true, true, true, true] rfl rfl rfl (by kernel_rfl) (by kernel_rfl) (by kernel_rfl) (fun _ _ _ h => h) ?ry38 (⟨(BQ.out.go hby5r1).c0, (BQ.out.go hby5r1).c1, (BQ.out.go hby5r1).c2⟩) ?rm38
      case ry38 => first | exact Or.inl ⟨by rfl, by intro w'; go_simp; first | done | rfl⟩
      case rm38 =>
      simp only [Act.put, List.setIfInBounds_toArray, List.set_cons_zero, List.set_cons_succ]
      refine anyC_done (by kernel_rfl) ?_
      have hB := hby5r1
      have z33 : wr.heap.size ≤ y5r1.heap.size := hB.size
      have B34 : Hid (Abx y5r1 (w.heap.size) (.bool false) (.slice (some ⟨b1, o1, none⟩) 2 sc1) (.slice da1 dz1.length dc1)) := BQ.out.go hB
      have L35 : Hid (MidC (v2.heap.size) (v3.heap.size) y5r1 (some ⟨b31, ob31, none⟩) (DX) (xc1)) := LX.out.go (by omega) hB
      have L36 : Hid (MidC (v3.heap.size) (v4.heap.size) y5r1 (some ⟨b32, ob32, none⟩) (DY) (yc1)) := LY.out.go (by omega) hB
      have hb37 : Hid (Below w.heap.size w y5r1) := hbQ.out.trans (hB.mono hbQ.out.size)
      clear hB hbQ BQ LX LY
      go_wp2_with fail
      go_ret
      refine ⟨ret_bool ?_, hb37.out⟩
      simp only [IntWalk.i64_left]
      rw [HV.out]
      simp
theorem mrows_walk (c1 : Bool) (sa1 : Option Addr) (sc1 : Nat) (sz1 : List Int) (da1 : Option Addr) (dc1 : Nat) (dz1 : List Int) (i tt : Int) (hi : In64 i) (ht : In64 tt) (ra : Option Addr) (rc : Nat) (rz : List Int) (w : World) (w8 : IsArrD w sa1 sz1 sc1 da1 dz1 dc1) (hr : IsInts w.heap.size w ra rz) :
    Calls Try.prog 6 #[.agg #[.bool c1, .slice sa1 sz1.length sc1, .slice da1 dz1.length dc1], .int .i64 i, .int .i64 tt, .slice ra rz.length rc] w fun e w' => e = .returned (.bool true) ∧ Below w.heap.size w w' := by
  by_cases h1 : SqP c1 sz1 dz1
  · obtain ⟨n, hn, rfl, hl1, rfl⟩ := h1
    obtain ⟨b1, o1, rfl⟩ := opn14 w8.2.2.1
    by_cases g0 : i < 0
    · exact rows_i0 n hn b1 o1 sc1 da1 dc1 dz1 hl1 w ⟨w8.2.2.1, w8.2.2.2.1, w8.2.2.2.2.2⟩ i tt ra _ rc g0
    by_cases g1 : (n : Int) ≤ i
    · exact rows_in n hn b1 o1 sc1 da1 dc1 dz1 hl1 w ⟨w8.2.2.1, w8.2.2.2.1, w8.2.2.2.2.2⟩ i tt ra _ rc g0 g1
    by_cases g2 : rz.length = n
    · obtain ⟨i, rfl⟩ := Int.eq_ofNat_of_zero_le (Int.not_lt.1 g0)
      rw [g2]
      exact rows_ok n hn b1 o1 sc1 da1 dc1 dz1 hl1 w ⟨w8.2.2.1, w8.2.2.2.1, w8.2.2.2.2.2⟩ i tt (by omega) ra rc rz g2 hr
    · exact rows_rl n hn b1 o1 sc1 da1 dc1 dz1 hl1 w ⟨w8.2.2.1, w8.2.2.2.1, w8.2.2.2.2.2⟩ i tt ra _ rc g0 g1 g2
  · exact rows_a c1 sa1 sc1 sz1 da1 dc1 dz1 i tt hi ht ra rc rz w w8 hr h1
end Go.Proofs.Ytjaabemlpiafaab
