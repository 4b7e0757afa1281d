/-
  The walk of the statement ReachFars, given what the program tells.
-/
import Derived.Test.YtgaelbgeoobgiaaDoorHold
import Derived.Test.YtgaelbgeoobgiaaDoorRsx
import Derived.Test.YtgaelbgeoobgiaaDoorRrs
import Derived.Test.YtgaelbgeoobgiaaDoorRgk
import Derived.Test.YtgaelbgeoobgiaaDoorMidc
import Derived.Test.YtgaelbgeoobgiaaDoorCutq
namespace Go.Proofs.YtgaelbgeoobgiaaDoor
open Go.RowKit
set_option linter.unusedVariables false

theorem shp14 {w v : World} {b o n sc : Nat} (h : IsC w.heap.size w (some ⟨b, o, none⟩) [(n : Int), (n : Int)] sc) (hB : Below w.heap.size w v) : b < w.heap.size ∧ v.cell? ⟨b, o, none⟩ = some (.int .i64 (n : Int)) := by
  obtain ⟨b', o', e, hb, hc⟩ := (h.1.below hB).at (q := 0) (by simp)
  cases e
  have h0 := hc 0 (by simp)
  rw [Nat.add_zero] at h0
  exact ⟨hb, h0⟩
theorem opn14 {w : World} {sa : Option Addr} {n sc : Nat} (h : IsC w.heap.size w sa [(n : Int), (n : Int)] sc) : ∃ b o, sa = some ⟨b, o, none⟩ := by
  obtain ⟨b, o, e, _, _⟩ := h.1.at (q := 0) (by simp)
  exact ⟨b, o, e⟩
set_option maxRecDepth 100000 in
set_option maxHeartbeats 2000000 in
theorem fars_no (c1 : Bool) (sa1 : Option Addr) (sc1 : Nat) (sz1 : List Int) (da1 : Option Addr) (dc1 : Nat) (dz1 : List Int) (i : Int) (hi : In64 i) (w : World) (hg : HasErr w) (w8 : IsArrD w sa1 sz1 sc1 da1 dz1 dc1) (h0 : rlE c1 sz1 dz1 ≠ 0) :
    Calls Tryd.prog 5 #[.agg #[.bool c1, .slice sa1 sz1.length sc1, .slice da1 dz1.length dc1], .int .i64 i] w fun e w' => e = .returned (.bool true) ∧ Below w.heap.size w w' := by
  have HI1 : Hid (IsC w.heap.size w sa1 sz1 sc1 ∧ IsC w.heap.size w da1 dz1 dc1) := ⟨w8.2.2.1, w8.2.2.2.1⟩
  have HG : Hid (HasErr w) := hg
  obtain ⟨E, hE⟩ : ∃ E, rlE c1 sz1 dz1 = E := ⟨_, rfl⟩
  have HE : Hid (rlE c1 sz1 dz1 = E) := hE
  have HNe : Hid (rlE c1 sz1 dz1 ≠ 0) := h0
  have tE : (E == 0) = false := by rw [← hE]; simpa using h0
  clear hE h0 hg
  have n1 := Abx.new w (.bool c1) (.slice sa1 sz1.length sc1) (.slice da1 dz1.length dc1)
  have l2 := (n1).c0
  have l3 := (n1).c1
  have l4 := (n1).c2
  go_enter Tryd.func5, Tryd.ntmps5
  go_wp2_with fail
  obtain ⟨wo5, hwo5⟩ : ∃ wo5, wo5 = (w.alloc (.cells #[.bool c1, .slice sa1 sz1.length sc1, .slice da1 dz1.length dc1] 24)) := ⟨_, rfl⟩
  rw [← hwo5]
  have z6 : w.heap.size + 1 ≤ wo5.heap.size := by rw [hwo5]; simp only [World.size_alloc]; omega
  have B7 : Hid (Abx wo5 (w.heap.size) (.bool c1) (.slice sa1 sz1.length sc1) (.slice da1 dz1.length dc1)) := by rw [hwo5]; exact n1
  have hb8 : Hid (Below w.heap.size w wo5) := by rw [hwo5]; exact ((Below.refl w.heap.size w).alloc (by omega) (.cells #[.bool c1, .slice sa1 sz1.length sc1, .slice da1 dz1.length dc1] 24))
  have zwo5 : w.heap.size ≤ wo5.heap.size := hb8.out.size
  clear hwo5 n1 l2 l3 l4
  refine (rfault_no c1 sa1 sc1 sz1 da1 dc1 dz1 E HE.out _ w8.1 w8.2.1 ((HI1.out.1.below hb8.out).mono hb8.out.size).1 ((HI1.out.2.below hb8.out).mono hb8.out.size).1).mono ?_
  rintro e v1 ⟨rfl, hB⟩
  have z9 : wo5.heap.size ≤ v1.heap.size := hB.size
  have B10 : Hid (Abx v1 (w.heap.size) (.bool c1) (.slice sa1 sz1.length sc1) (.slice da1 dz1.length dc1)) := B7.out.go hB
  have hb11 : Hid (Below w.heap.size w v1) := hb8.out.trans (hB.mono hb8.out.size)
  clear hB hb8 B7
  have l12 := (B10.out).c0
  have l13 := (B10.out).c1
  have l14 := (B10.out).c2
  go_wp2_with fail
  clear l12 l13 l14
  refine (fra_no c1 sa1 sc1 sz1 da1 dc1 dz1 i _ w8.1 w8.2.1 ((HI1.out.1.below hb11.out).mono hb11.out.size).1 ((HI1.out.2.below hb11.out).mono hb11.out.size).1 HNe.out).mono ?_
  rintro e v2 ⟨rfl, hB⟩
  have z15 : v1.heap.size ≤ v2.heap.size := hB.size
  have B16 : Hid (Abx v2 (w.heap.size) (.bool c1) (.slice sa1 sz1.length sc1) (.slice da1 dz1.length dc1)) := B10.out.go hB
  have hb17 : Hid (Below w.heap.size w v2) := hb11.out.trans (hB.mono hb11.out.size)
  clear hB hb11 B10
  rw [HE.out]
  go_wp2_with fail
  refine (ints_no15 E (by rw [← HE.out]; exact HNe.out) _ (HG.out.go hb17.out)).mono ?_
  rintro e v3 ⟨rfl, hB⟩
  have z18 : v2.heap.size ≤ v3.heap.size := hB.size
  have B19 : Hid (Abx v3 (w.heap.size) (.bool c1) (.slice sa1 sz1.length sc1) (.slice da1 dz1.length dc1)) := B16.out.go hB
  have hb20 : Hid (Below w.heap.size w v3) := hb17.out.trans (hB.mono hb17.out.size)
  clear hB hb17 B16
  go_wp2_with fail
  go_ret
  exact ⟨rfl, hb20.out⟩
set_option maxRecDepth 100000 in
set_option maxHeartbeats 2000000 in
theorem fars_lo (n : Nat) (hn : n ≤ 24) (b1 o1 sc1 : Nat) (da1 : Option Addr) (dc1 : Nat) (dz1 : List Int) (HL1 : Hid (dz1.length = n * n)) (w : World) (HI1 : Hid (IsC w.heap.size w (some ⟨b1, o1, none⟩) [(n : Int), (n : Int)] sc1 ∧ IsC w.heap.size w da1 dz1 dc1 ∧ ∀ j, In64 (nth dz1 j))) (hg : HasErr w) (hk1 : mskB dz1 = true) (i : Int) (hx : i < 0) :
    Calls Tryd.prog 5 #[.agg #[.bool false, .slice (some ⟨b1, o1, none⟩) 2 sc1, .slice da1 dz1.length dc1], .int .i64 i] w fun e w' => e = .returned (.bool true) ∧ Below w.heap.size w w' := by
  have HSh : Hid (∀ v, Below w.heap.size w v → v.cell? ⟨b1, o1, none⟩ = some (.int .i64 (n : Int))) := fun v h => (shp14 HI1.out.1 h).2
  have HG : Hid (HasErr w) := hg
  have HK1 : Hid (mskB dz1 = true) := hk1
  obtain ⟨N, hN⟩ : ∃ N, N = n * n := ⟨_, rfl⟩
  have N576 : N ≤ 576 := by have : n * n ≤ 24 * 24 := Nat.mul_le_mul hn hn; omega
  have HN : Hid (N = n * n ∧ dz1.length = N) := ⟨hN, by rw [HL1.out, hN]⟩
  clear hN
  have t1 : decide (i < 0) = true := decide_eq_true hx
  have HX : Hid (i < 0) := hx
  clear hx
  clear hg hk1
  rw [HN.out.2]
  have n1 := Abx.new w (.bool false) (.slice (some ⟨b1, o1, none⟩) 2 sc1) (.slice da1 N dc1)
  have l2 := (n1).c0
  have l3 := (n1).c1
  have l4 := (n1).c2
  go_enter Tryd.func5, Tryd.ntmps5
  go_wp2_with fail
  obtain ⟨wo5, hwo5⟩ : ∃ wo5, wo5 = (w.alloc (.cells #[.bool false, .slice (some ⟨b1, o1, none⟩) 2 sc1, .slice da1 N dc1] 24)) := ⟨_, rfl⟩
  rw [← hwo5]
  have z6 : w.heap.size + 1 ≤ wo5.heap.size := by rw [hwo5]; simp only [World.size_alloc]; omega
  have B7 : Hid (Abx wo5 (w.heap.size) (.bool false) (.slice (some ⟨b1, o1, none⟩) 2 sc1) (.slice da1 N dc1)) := by rw [hwo5]; exact n1
  have hb8 : Hid (Below w.heap.size w wo5) := by rw [hwo5]; exact ((Below.refl w.heap.size w).alloc (by omega) (.cells #[.bool false, .slice (some ⟨b1, o1, none⟩) 2 sc1, .slice da1 N dc1] 24))
  have zwo5 : w.heap.size ≤ wo5.heap.size := hb8.out.size
  clear hwo5 n1 l2 l3 l4
  refine (rfault_ok n hn (some ⟨b1, o1, none⟩) sc1 da1 dc1 dz1 N HN.out.2 HL1.out HK1.out _ ((HI1.out.1.below hb8.out).mono hb8.out.size).1 ((HI1.out.2.1.below hb8.out).mono hb8.out.size).1).mono ?_
  rintro e v1 ⟨rfl, hB⟩
  have z9 : wo5.heap.size ≤ v1.heap.size := hB.size
  have B10 : Hid (Abx v1 (w.heap.size) (.bool false) (.slice (some ⟨b1, o1, none⟩) 2 sc1) (.slice da1 N dc1)) := B7.out.go hB
  have hb11 : Hid (Below w.heap.size w v1) := hb8.out.trans (hB.mono hb8.out.size)
  clear hB hb8 B7
  have l12 := (B10.out).c0
  have l13 := (B10.out).c1
  have l14 := (B10.out).c2
  go_wp2_with fail
  clear l12 l13 l14
  refine (fra_lo n hn (some ⟨b1, o1, none⟩) sc1 da1 dc1 dz1 N HN.out.2 HL1.out HK1.out i HX.out _ ((HI1.out.1.below hb11.out).mono hb11.out.size).1 ((HI1.out.2.1.below hb11.out).mono hb11.out.size).1).mono ?_
  rintro e v2 ⟨rfl, hB⟩
  have z15 : v1.heap.size ≤ v2.heap.size := hB.size
  have B16 : Hid (Abx v2 (w.heap.size) (.bool false) (.slice (some ⟨b1, o1, none⟩) 2 sc1) (.slice da1 N dc1)) := B10.out.go hB
  have hb17 : Hid (Below w.heap.size w v2) := hb11.out.trans (hB.mono hb11.out.size)
  clear hB hb11 B10
  go_wp2_with fail
  refine (ints_no15 5 (by decide) _ (HG.out.go hb17.out)).mono ?_
  rintro e v3 ⟨rfl, hB⟩
  have z18 : v2.heap.size ≤ v3.heap.size := hB.size
  have B19 : Hid (Abx v3 (w.heap.size) (.bool false) (.slice (some ⟨b1, o1, none⟩) 2 sc1) (.slice da1 N dc1)) := B16.out.go hB
  have hb20 : Hid (Below w.heap.size w v3) := hb17.out.trans (hB.mono hb17.out.size)
  clear hB hb17 B16
  go_wp2_with fail
  go_ret
  exact ⟨rfl, hb20.out⟩
set_option maxRecDepth 100000 in
set_option maxHeartbeats 2000000 in
theorem fars_hi (n : Nat) (hn : n ≤ 24) (b1 o1 sc1 : Nat) (da1 : Option Addr) (dc1 : Nat) (dz1 : List Int) (HL1 : Hid (dz1.length = n * n)) (w : World) (HI1 : Hid (IsC w.heap.size w (some ⟨b1, o1, none⟩) [(n : Int), (n : Int)] sc1 ∧ IsC w.heap.size w da1 dz1 dc1 ∧ ∀ j, In64 (nth dz1 j))) (hg : HasErr w) (hk1 : mskB dz1 = true) (i : Int) (hx : ¬ i < 0) (hy : (n : Int) ≤ i) :
    Calls Tryd.prog 5 #[.agg #[.bool false, .slice (some ⟨b1, o1, none⟩) 2 sc1, .slice da1 dz1.length dc1], .int .i64 i] w fun e w' => e = .returned (.bool true) ∧ Below w.heap.size w w' := by
  have HSh : Hid (∀ v, Below w.heap.size w v → v.cell? ⟨b1, o1, none⟩ = some (.int .i64 (n : Int))) := fun v h => (shp14 HI1.out.1 h).2
  have HG : Hid (HasErr w) := hg
  have HK1 : Hid (mskB dz1 = true) := hk1
  obtain ⟨N, hN⟩ : ∃ N, N = n * n := ⟨_, rfl⟩
  have N576 : N ≤ 576 := by have : n * n ≤ 24 * 24 := Nat.mul_le_mul hn hn; omega
  have HN : Hid (N = n * n ∧ dz1.length = N) := ⟨hN, by rw [HL1.out, hN]⟩
  clear hN
  have t1 : decide (i < 0) = false := decide_eq_false hx
  have t2 : decide ((n : Int) ≤ i) = true := decide_eq_true hy
  have HX : Hid (¬ i < 0 ∧ (n : Int) ≤ i) := ⟨hx, hy⟩
  clear hx hy
  clear hg hk1
  rw [HN.out.2]
  have n1 := Abx.new w (.bool false) (.slice (some ⟨b1, o1, none⟩) 2 sc1) (.slice da1 N dc1)
  have l2 := (n1).c0
  have l3 := (n1).c1
  have l4 := (n1).c2
  go_enter Tryd.func5, Tryd.ntmps5
  go_wp2_with fail
  obtain ⟨wo5, hwo5⟩ : ∃ wo5, wo5 = (w.alloc (.cells #[.bool false, .slice (some ⟨b1, o1, none⟩) 2 sc1, .slice da1 N dc1] 24)) := ⟨_, rfl⟩
  rw [← hwo5]
  have z6 : w.heap.size + 1 ≤ wo5.heap.size := by rw [hwo5]; simp only [World.size_alloc]; omega
  have B7 : Hid (Abx wo5 (w.heap.size) (.bool false) (.slice (some ⟨b1, o1, none⟩) 2 sc1) (.slice da1 N dc1)) := by rw [hwo5]; exact n1
  have hb8 : Hid (Below w.heap.size w wo5) := by rw [hwo5]; exact ((Below.refl w.heap.size w).alloc (by omega) (.cells #[.bool false, .slice (some ⟨b1, o1, none⟩) 2 sc1, .slice da1 N dc1] 24))
  have zwo5 : w.heap.size ≤ wo5.heap.size := hb8.out.size
  clear hwo5 n1 l2 l3 l4
  refine (rfault_ok n hn (some ⟨b1, o1, none⟩) sc1 da1 dc1 dz1 N HN.out.2 HL1.out HK1.out _ ((HI1.out.1.below hb8.out).mono hb8.out.size).1 ((HI1.out.2.1.below hb8.out).mono hb8.out.size).1).mono ?_
  rintro e v1 ⟨rfl, hB⟩
  have z9 : wo5.heap.size ≤ v1.heap.size := hB.size
  have B10 : Hid (Abx v1 (w.heap.size) (.bool false) (.slice (some ⟨b1, o1, none⟩) 2 sc1) (.slice da1 N dc1)) := B7.out.go hB
  have hb11 : Hid (Below w.heap.size w v1) := hb8.out.trans (hB.mono hb8.out.size)
  clear hB hb8 B7
  have l12 := (B10.out).c0
  have l13 := (B10.out).c1
  have l14 := (B10.out).c2
  have l15 := HSh.out _ hb11.out
  go_wp2_with fail
  clear l12 l13 l14 l15
  refine (fra_hi n hn (some ⟨b1, o1, none⟩) sc1 da1 dc1 dz1 N HN.out.2 HL1.out HK1.out i (by have := HX.out.1; omega) HX.out.2 _ ((HI1.out.1.below hb11.out).mono hb11.out.size).1 ((HI1.out.2.1.below hb11.out).mono hb11.out.size).1).mono ?_
  rintro e v2 ⟨rfl, hB⟩
  have z16 : v1.heap.size ≤ v2.heap.size := hB.size
  have B17 : Hid (Abx v2 (w.heap.size) (.bool false) (.slice (some ⟨b1, o1, none⟩) 2 sc1) (.slice da1 N dc1)) := B10.out.go hB
  have hb18 : Hid (Below w.heap.size w v2) := hb11.out.trans (hB.mono hb11.out.size)
  clear hB hb11 B10
  go_wp2_with fail
  refine (ints_no15 5 (by decide) _ (HG.out.go hb18.out)).mono ?_
  rintro e v3 ⟨rfl, hB⟩
  have z19 : v2.heap.size ≤ v3.heap.size := hB.size
  have B20 : Hid (Abx v3 (w.heap.size) (.bool false) (.slice (some ⟨b1, o1, none⟩) 2 sc1) (.slice da1 N dc1)) := B17.out.go hB
  have hb21 : Hid (Below w.heap.size w v3) := hb18.out.trans (hB.mono hb18.out.size)
  clear hB hb18 B17
  go_wp2_with fail
  go_ret
  exact ⟨rfl, hb21.out⟩
set_option maxRecDepth 100000 in
set_option maxHeartbeats 2000000 in
theorem fars_ok (n : Nat) (hn : n ≤ 24) (b1 o1 sc1 : Nat) (da1 : Option Addr) (dc1 : Nat) (dz1 : List Int) (HL1 : Hid (dz1.length = n * n)) (w : World) (HI1 : Hid (IsC w.heap.size w (some ⟨b1, o1, none⟩) [(n : Int), (n : Int)] sc1 ∧ IsC w.heap.size w da1 dz1 dc1 ∧ ∀ j, In64 (nth dz1 j))) (hg : HasErr w) (hk1 : mskB dz1 = true) (i : Nat) (hx : i < n) :
    Calls Tryd.prog 5 #[.agg #[.bool false, .slice (some ⟨b1, o1, none⟩) 2 sc1, .slice da1 dz1.length dc1], .int .i64 (i : Nat)] w fun e w' => e = .returned (.bool true) ∧ Below w.heap.size w w' := by
  have HSh : Hid (∀ v, Below w.heap.size w v → v.cell? ⟨b1, o1, none⟩ = some (.int .i64 (n : Int))) := fun v h => (shp14 HI1.out.1 h).2
  have HG : Hid (HasErr w) := hg
  have HK1 : Hid (mskB dz1 = true) := hk1
  obtain ⟨N, hN⟩ : ∃ N, N = n * n := ⟨_, rfl⟩
  have N576 : N ≤ 576 := by have : n * n ≤ 24 * 24 := Nat.mul_le_mul hn hn; omega
  have HN : Hid (N = n * n ∧ dz1.length = N) := ⟨hN, by rw [HL1.out, hN]⟩
  clear hN
  have t1 : decide ((i : Int) < 0) = false := decide_eq_false (by omega)
  have t2 : decide ((n : Int) ≤ (i : Int)) = false := decide_eq_false (by omega)
  have t3 : decide (n ≤ i) = false := decide_eq_false (by omega)
  have t4 : ¬ n ≤ i := by omega
  have HX : Hid (i < n) := hx
  clear hx
  clear hg hk1
  rw [HN.out.2]
  have n1 := Abx.new w (.bool false) (.slice (some ⟨b1, o1, none⟩) 2 sc1) (.slice da1 N dc1)
  have l2 := (n1).c0
  have l3 := (n1).c1
  have l4 := (n1).c2
  go_enter Tryd.func5, Tryd.ntmps5
  go_wp2_with fail
  obtain ⟨wo5, hwo5⟩ : ∃ wo5, wo5 = (w.alloc (.cells #[.bool false, .slice (some ⟨b1, o1, none⟩) 2 sc1, .slice da1 N dc1] 24)) := ⟨_, rfl⟩
  rw [← hwo5]
  have z6 : w.heap.size + 1 ≤ wo5.heap.size := by rw [hwo5]; simp only [World.size_alloc]; omega
  have B7 : Hid (Abx wo5 (w.heap.size) (.bool false) (.slice (some ⟨b1, o1, none⟩) 2 sc1) (.slice da1 N dc1)) := by rw [hwo5]; exact n1
  have hb8 : Hid (Below w.heap.size w wo5) := by rw [hwo5]; exact ((Below.refl w.heap.size w).alloc (by omega) (.cells #[.bool false, .slice (some ⟨b1, o1, none⟩) 2 sc1, .slice da1 N dc1] 24))
  have zwo5 : w.heap.size ≤ wo5.heap.size := hb8.out.size
  clear hwo5 n1 l2 l3 l4
  refine (rfault_ok n hn (some ⟨b1, o1, none⟩) sc1 da1 dc1 dz1 N HN.out.2 HL1.out HK1.out _ ((HI1.out.1.below hb8.out).mono hb8.out.size).1 ((HI1.out.2.1.below hb8.out).mono hb8.out.size).1).mono ?_
  rintro e v1 ⟨rfl, hB⟩
  have z9 : wo5.heap.size ≤ v1.heap.size := hB.size
  have B10 : Hid (Abx v1 (w.heap.size) (.bool false) (.slice (some ⟨b1, o1, none⟩) 2 sc1) (.slice da1 N dc1)) := B7.out.go hB
  have hb11 : Hid (Below w.heap.size w v1) := hb8.out.trans (hB.mono hb8.out.size)
  clear hB hb8 B7
  have l12 := (B10.out).c0
  have l13 := (B10.out).c1
  have l14 := (B10.out).c2
  have l15 := HSh.out _ hb11.out
  go_wp2_with fail
  clear l12 l13 l14 l15
  obtain ⟨hqr11, hsr11⟩ : b1 < w.heap.size ∧ v1.cell? ⟨b1, o1, none⟩ = some (.int .i64 (n : Int)) := shp14 HI1.out.1 hb11.out
  have hb0r1 : Below v1.heap.size v1 v1.drew := (Below.refl _ v1).drew
  refine anyC_begin (fun w' => w'.cell? ⟨w.heap.size, 0, none⟩ = some (.bool false) ∧ w'.cell? ⟨w.heap.size, 1, none⟩ = some (.slice (some ⟨b1, o1, none⟩) 2 sc1) ∧ w'.cell? ⟨w.heap.size, 2, none⟩ = some (.slice da1 N dc1) ∧ w'.cell? ⟨b1, o1, none⟩ = some (.int .i64 (n : Int))) 9 #[false, false, false, false, false, false, false, false, false] (by kernel_rfl) rfl rfl ?_
  refine anyC_put 0 27 ?rv0 #[true, false, false, false, false, false, false, false, false] rfl rfl rfl (by kernel_rfl) (by kernel_rfl) (by kernel_rfl) (fun _ _ _ h => h) ?ry0 (⟨(B10.out.go hb0r1).c0, (B10.out.go hb0r1).c1, (B10.out.go hb0r1).c2, (hb0r1.cell (p := ⟨b1, o1, none⟩) (Nat.lt_of_lt_of_le hqr11 hb11.out.size)).trans hsr11⟩) ?rm0
  case ry0 => first | exact Or.inl ⟨by rfl, by intro w'; go_simp; first | done | rfl⟩
  case rm0 =>
  simp only [Act.put, List.setIfInBounds_toArray, List.set_cons_zero, List.set_cons_succ]
  refine anyC_take 1 28 ?rv1 #[true, true, false, false, false, false, false, false, false] rfl rfl rfl (by kernel_rfl) (by kernel_rfl) (by kernel_rfl) (fun _ _ _ h => h) ?ry1 (⟨(B10.out.go hb0r1).c0, (B10.out.go hb0r1).c1, (B10.out.go hb0r1).c2, (hb0r1.cell (p := ⟨b1, o1, none⟩) (Nat.lt_of_lt_of_le hqr11 hb11.out.size)).trans hsr11⟩) ?rm1
  case ry1 => first | exact Or.inl ⟨by rfl, by intro w' hw'; (try dsimp only at hw'); go_simp; first | done | rfl⟩
  case rm1 =>
  simp only [Act.put, List.setIfInBounds_toArray, List.set_cons_zero, List.set_cons_succ]
  refine anyC_put 2 29 ?rv2 #[true, true, true, false, false, false, false, false, false] rfl rfl rfl (by kernel_rfl) (by kernel_rfl) (by kernel_rfl) (fun _ _ _ h => h) ?ry2 (⟨(B10.out.go hb0r1).c0, (B10.out.go hb0r1).c1, (B10.out.go hb0r1).c2, (hb0r1.cell (p := ⟨b1, o1, none⟩) (Nat.lt_of_lt_of_le hqr11 hb11.out.size)).trans hsr11⟩) ?rm2
  case ry2 => first | exact Or.inl ⟨by rfl, by intro w'; go_simp; first | done | rfl⟩
  case rm2 =>
  simp only [Act.put, List.setIfInBounds_toArray, List.set_cons_zero, List.set_cons_succ]
  refine anyC_take 3 30 ?rv3 #[true, true, true, true, false, false, false, false, false] rfl rfl rfl (by kernel_rfl) (by kernel_rfl) (by kernel_rfl) (fun _ _ _ h => h) ?ry3 (⟨(B10.out.go hb0r1).c0, (B10.out.go hb0r1).c1, (B10.out.go hb0r1).c2, (hb0r1.cell (p := ⟨b1, o1, none⟩) (Nat.lt_of_lt_of_le hqr11 hb11.out.size)).trans hsr11⟩) ?rm3
  case ry3 => first | exact Or.inl ⟨by rfl, by intro w' hw'; (try dsimp only at hw'); go_simp; first | done | rfl⟩
  case rm3 =>
  simp only [Act.put, List.setIfInBounds_toArray, List.set_cons_zero, List.set_cons_succ]
  refine anyC_put 4 31 ?rv4 #[true, true, true, true, true, false, false, false, false] rfl rfl rfl (by kernel_rfl) (by kernel_rfl) (by kernel_rfl) (fun _ _ _ h => h) ?ry4 (⟨(B10.out.go hb0r1).c0, (B10.out.go hb0r1).c1, (B10.out.go hb0r1).c2, (hb0r1.cell (p := ⟨b1, o1, none⟩) (Nat.lt_of_lt_of_le hqr11 hb11.out.size)).trans hsr11⟩) ?rm4
  case ry4 => first | exact Or.inl ⟨by rfl, by intro w'; go_simp; first | done | rfl⟩
  case rm4 =>
  simp only [Act.put, List.setIfInBounds_toArray, List.set_cons_zero, List.set_cons_succ]
  refine anyC_take 5 32 ?rv5 #[true, true, true, true, true, true, false, false, false] rfl rfl rfl (by kernel_rfl) (by kernel_rfl) (by kernel_rfl) (fun _ _ _ h => h) ?ry5 (⟨(B10.out.go hb0r1).c0, (B10.out.go hb0r1).c1, (B10.out.go hb0r1).c2, (hb0r1.cell (p := ⟨b1, o1, none⟩) (Nat.lt_of_lt_of_le hqr11 hb11.out.size)).trans hsr11⟩) ?rm5
  case ry5 => first | exact Or.inl ⟨by rfl, by intro w' hw'; (try dsimp only at hw'); go_simp; first | done | rfl⟩
  case rm5 =>
  simp only [Act.put, List.setIfInBounds_toArray, List.set_cons_zero, List.set_cons_succ]
  refine anyC_put 6 33 ?rv6 #[true, true, true, true, true, true, true, false, false] rfl rfl rfl (by kernel_rfl) (by kernel_rfl) (by kernel_rfl) (fun _ _ _ h => h) ?ry6 (⟨(B10.out.go hb0r1).c0, (B10.out.go hb0r1).c1, (B10.out.go hb0r1).c2, (hb0r1.cell (p := ⟨b1, o1, none⟩) (Nat.lt_of_lt_of_le hqr11 hb11.out.size)).trans hsr11⟩) ?rm6
  case ry6 => first | exact Or.inl ⟨by rfl, by intro w'; go_simp; first | done | rfl⟩
  case rm6 =>
  simp only [Act.put, List.setIfInBounds_toArray, List.set_cons_zero, List.set_cons_succ]
  refine anyC_one 7 #[true, true, true, true, true, true, true, true, false] (by kernel_rfl) rfl rfl (fun K hK => ?_)
  go_simp
  go_wp2_with (go_at_call 16; refine (dist_ref n hn da1 dc1 dz1 N HN.out.2 HL1.out i HX.out _ ((HI1.out.2.1.below (hb11.out.trans (hb0r1.mono hb11.out.size))).mono (hb11.out.trans (hb0r1.mono hb11.out.size)).size).1).mono ?_; rintro e y1r1 ⟨grCL, rfl, hGCL, hBy1r1⟩)
  have hby1r1 : Below v1.heap.size v1 y1r1 := hb0r1.trans (hBy1r1.mono hb0r1.size)
  refine hK.out _ _ (⟨(B10.out.go hby1r1).c0, (B10.out.go hby1r1).c1, (B10.out.go hby1r1).c2, (hby1r1.cell (p := ⟨b1, o1, none⟩) (Nat.lt_of_lt_of_le hqr11 hb11.out.size)).trans hsr11⟩) ?_
  clear hK K
  refine anyC_put 8 6 ?rv8 #[true, true, true, true, true, true, true, true, true] rfl rfl rfl (by kernel_rfl) (by kernel_rfl) (by kernel_rfl) (fun _ _ _ h => h) ?ry8 (⟨(B10.out.go hby1r1).c0, (B10.out.go hby1r1).c1, (B10.out.go hby1r1).c2, (hby1r1.cell (p := ⟨b1, o1, none⟩) (Nat.lt_of_lt_of_le hqr11 hb11.out.size)).trans hsr11⟩) ?rm8
  case ry8 => first | exact Or.inl ⟨by rfl, by intro w'; go_simp; first | done | rfl⟩
  case rm8 =>
  simp only [Act.put, List.setIfInBounds_toArray, List.set_cons_zero, List.set_cons_succ]
  refine anyC_done (by kernel_rfl) ?_
  have hB := hby1r1
  have z16 : v1.heap.size ≤ y1r1.heap.size := hB.size
  have B17 : Hid (Abx y1r1 (w.heap.size) (.bool false) (.slice (some ⟨b1, o1, none⟩) 2 sc1) (.slice da1 N dc1)) := B10.out.go hB
  have hb18 : Hid (Below w.heap.size w y1r1) := hb11.out.trans (hB.mono hb11.out.size)
  clear hB hb11 B10
  have LCL : Hid (MidC (w.heap.size) (y1r1.heap.size) y1r1 (grCL) (frL n (rdR n dz1) i) (n)) := ⟨hGCL.midc.1.low (by have : v1.drew.heap.size = v1.heap.size := rfl; omega), hGCL.2⟩
  clear hGCL
  have l19 := (B17.out).c0
  have l20 := (B17.out).c1
  have l21 := (B17.out).c2
  go_wp2_with fail
  clear l19 l20 l21
  refine (fra_ok n hn (some ⟨b1, o1, none⟩) sc1 da1 dc1 dz1 N HN.out.2 HL1.out HK1.out i HX.out _ ((HI1.out.1.below hb18.out).mono hb18.out.size).1 ((HI1.out.2.1.below hb18.out).mono hb18.out.size).1).mono ?_
  rintro e v2 ⟨xa4, rfl, hX4, hB⟩
  have z22 : y1r1.heap.size ≤ v2.heap.size := hB.size
  have B23 : Hid (Abx v2 (w.heap.size) (.bool false) (.slice (some ⟨b1, o1, none⟩) 2 sc1) (.slice da1 N dc1)) := B17.out.go hB
  have L24 : Hid (MidC (w.heap.size) (y1r1.heap.size) v2 (grCL) (frL n (rdR n dz1) i) (n)) := LCL.out.go (by omega) hB
  have hb25 : Hid (Below w.heap.size w v2) := hb18.out.trans (hB.mono hb18.out.size)
  have L26 : Hid (MidC (y1r1.heap.size) (v2.heap.size) v2 (xa4) (frL n (rdR n dz1) i) (n)) := hX4.midc
  clear hB hb18 B17 LCL hX4
  go_wp2_with fail
  refine (ints_ok15 (frL n (rdR n dz1) i) n (by rw [frL_len]) (by omega) xa4 n grCL n _ (HG.out.go hb25.out) (L26.out.is (by omega)).1 (L24.out.is (by omega)).1).mono ?_
  rintro e v3 ⟨rfl, hB⟩
  have z27 : v2.heap.size ≤ v3.heap.size := hB.size
  have B28 : Hid (Abx v3 (w.heap.size) (.bool false) (.slice (some ⟨b1, o1, none⟩) 2 sc1) (.slice da1 N dc1)) := B23.out.go hB
  have L29 : Hid (MidC (w.heap.size) (y1r1.heap.size) v3 (grCL) (frL n (rdR n dz1) i) (n)) := L24.out.go (by omega) hB
  have L30 : Hid (MidC (y1r1.heap.size) (v2.heap.size) v3 (xa4) (frL n (rdR n dz1) i) (n)) := L26.out.go (by omega) hB
  have hb31 : Hid (Below w.heap.size w v3) := hb25.out.trans (hB.mono hb25.out.size)
  clear hB hb25 B23 L24 L26
  go_wp2_with fail
  go_ret
  exact ⟨rfl, hb31.out⟩
theorem rfars_walk (c1 : Bool) (sa1 : Option Addr) (sc1 : Nat) (sz1 : List Int) (da1 : Option Addr) (dc1 : Nat) (dz1 : List Int) (i : Int) (hi : In64 i) (w : World) (hg : HasErr w) (w8 : IsArrD w sa1 sz1 sc1 da1 dz1 dc1) :
    Calls Tryd.prog 5 #[.agg #[.bool c1, .slice sa1 sz1.length sc1, .slice da1 dz1.length dc1], .int .i64 i] w fun e w' => e = .returned (.bool true) ∧ Below w.heap.size w w' := by
  by_cases h1 : rlE c1 sz1 dz1 = 0
  · obtain ⟨n, hn, rfl, hl1, rfl, hk1⟩ := rl_is h1
    obtain ⟨b1, o1, rfl⟩ := opn14 w8.2.2.1
    by_cases hx : i < 0
    · exact fars_lo n hn b1 o1 sc1 da1 dc1 dz1 hl1 w ⟨w8.2.2.1, w8.2.2.2.1, w8.2.2.2.2.2⟩ hg hk1 i hx
    · by_cases hy : (n : Int) ≤ i
      · exact fars_hi n hn b1 o1 sc1 da1 dc1 dz1 hl1 w ⟨w8.2.2.1, w8.2.2.2.1, w8.2.2.2.2.2⟩ hg hk1 i hx hy
      · obtain ⟨i, rfl⟩ := Int.eq_ofNat_of_zero_le (Int.not_lt.1 hx)
        exact fars_ok n hn b1 o1 sc1 da1 dc1 dz1 hl1 w ⟨w8.2.2.1, w8.2.2.2.1, w8.2.2.2.2.2⟩ hg hk1 i (by omega)
  · exact fars_no c1 sa1 sc1 sz1 da1 dc1 dz1 i hi w hg w8 h1
end Go.Proofs.YtgaelbgeoobgiaaDoor
