/-
  The walk of the statement FoldAxes, given what the program tells.
-/
import Derived.Test.YtmbgomljofngnacDoorFldo
import Derived.Test.YtmbgomljofngnacDoorFldl
import Derived.Test.YtmbgomljofngnacDoorMidc
import Derived.Test.YtmbgomljofngnacDoorSarr
import Derived.Test.YtmbgomljofngnacDoorErr
namespace Go.Proofs.YtmbgomljofngnacDoor
open Go.RowKit
set_option linter.unusedVariables false

set_option maxRecDepth 100000 in
set_option maxHeartbeats 8000000 in
theorem axes_other (HRd : CRd) (f i j : Int) (hf : In64 f) (hi : In64 i) (hj : In64 j) (c1 : Bool) (sa1 : Option Addr) (sc1 : Nat) (sz1 : List Int) (da1 : Option Addr) (dc1 : Nat) (dz1 : List Int) (w : World) (hg : HasErr w) (w8 : IsArrD w sa1 sz1 sc1 da1 dz1 dc1) (F2 : Hid (¬ Mon f)) :
    Calls Tryd.prog 5 #[.int .i64 f, .int .i64 i, .int .i64 j, .agg #[.bool c1, .slice sa1 sz1.length sc1, .slice da1 dz1.length dc1]] w fun e w' => e = .returned (.bool true) ∧ Below w.heap.size w w' := by
  obtain ⟨x11, x12, x3, x4, s64, T⟩ := w8
  have HI1 : Hid (IsC w.heap.size w sa1 sz1 sc1 ∧ IsC w.heap.size w da1 dz1 dc1 ∧ (∀ j, In64 (nth sz1 j)) ∧ ∀ j, In64 (nth dz1 j)) := ⟨x3, x4, s64, T⟩
  clear x3 x4 T s64
  have HG : Hid (HasErr w) := hg
  clear hg
  have n1 := Abx.new w (.bool c1) (.slice sa1 sz1.length sc1) (.slice da1 dz1.length dc1)
  have n2 := lit_mid (w.alloc (.cells #[.bool c1, .slice sa1 sz1.length sc1, .slice da1 dz1.length dc1] 25)) 3 [2, 2] 2 rfl
  simp only [World.size_alloc, List.map_cons, List.map_nil] at n2
  have n3 := lit_mid ((w.alloc (.cells #[.bool c1, .slice sa1 sz1.length sc1, .slice da1 dz1.length dc1] 25)).alloc (.cells #[.int .i64 2, .int .i64 2] 3)) 3 [1, 2, 3, 4] 4 rfl
  simp only [World.size_alloc, List.map_cons, List.map_nil] at n3
  go_enter Tryd.func5, Tryd.ntmps5
  go_wp2_with fail
  obtain ⟨wo4, hwo4⟩ : ∃ wo4, wo4 = (((w.alloc (.cells #[.bool c1, .slice sa1 sz1.length sc1, .slice da1 dz1.length dc1] 25)).alloc (.cells #[.int .i64 2, .int .i64 2] 3)).alloc (.cells #[.int .i64 1, .int .i64 2, .int .i64 3, .int .i64 4] 3)) := ⟨_, rfl⟩
  rw [← hwo4]
  have z5 : w.heap.size + 1 + 1 + 1 ≤ wo4.heap.size := by rw [hwo4]; simp only [World.size_alloc]; omega
  have B6 : Hid (Abx wo4 (w.heap.size) (.bool c1) (.slice sa1 sz1.length sc1) (.slice da1 dz1.length dc1)) := by rw [hwo4]; exact ((n1.al (.cells #[.int .i64 2, .int .i64 2] 3)).al (.cells #[.int .i64 1, .int .i64 2, .int .i64 3, .int .i64 4] 3))
  have L7 : Hid (MidC (w.heap.size + 1) (w.heap.size + 1 + 1) wo4 (some ⟨w.heap.size + 1, 0, none⟩) ([2, 2]) (2)) := by rw [hwo4]; exact (n2.al (by simp only [World.size_alloc]; omega) (.cells #[.int .i64 1, .int .i64 2, .int .i64 3, .int .i64 4] 3))
  have L8 : Hid (MidC (w.heap.size + 1 + 1) (w.heap.size + 1 + 1 + 1) wo4 (some ⟨w.heap.size + 1 + 1, 0, none⟩) ([1, 2, 3, 4]) (4)) := by rw [hwo4]; exact n3
  have hb9 : Hid (Below w.heap.size w wo4) := by rw [hwo4]; exact ((((Below.refl w.heap.size w).alloc (by omega) (.cells #[.bool c1, .slice sa1 sz1.length sc1, .slice da1 dz1.length dc1] 25)).alloc (by simp only [World.size_alloc]; omega) (.cells #[.int .i64 2, .int .i64 2] 3)).alloc (by simp only [World.size_alloc]; omega) (.cells #[.int .i64 1, .int .i64 2, .int .i64 3, .int .i64 4] 3))
  have zwo4 : w.heap.size ≤ wo4.heap.size := hb9.out.size
  clear hwo4 n1 n2 n3
  refine (rdw_ok 1 0 false (some ⟨w.heap.size + 1, 0, none⟩) 2 [2, 2] 2 rfl (some ⟨w.heap.size + 1 + 1, 0, none⟩) 4 [1, 2, 3, 4] 4 rfl _ (by unfold In64; decide) (by unfold In64; decide) (by decide) (by decide) (L7.out.is (by omega)) (L8.out.is (by omega)).1 (lit12 (by decide)) [2] [4, 6] HRd (by show rdE 1 0 false [2, 2] [1, 2, 3, 4] = 0 ∧ xout (0 : Int).toNat [2, 2] = [2] ∧ rdD 1 [2, 2] [1, 2, 3, 4] (0 : Int).toNat = [4, 6]; decide +kernel)).mono ?_
  rintro e v1 ⟨f1, g1, f2, g2, rfl, hX0, hY0, hB⟩
  have z10 : wo4.heap.size ≤ v1.heap.size := hB.size
  have B11 : Hid (Abx v1 (w.heap.size) (.bool c1) (.slice sa1 sz1.length sc1) (.slice da1 dz1.length dc1)) := B6.out.go hB
  have L12 : Hid (MidC (w.heap.size + 1) (w.heap.size + 1 + 1) v1 (some ⟨w.heap.size + 1, 0, none⟩) ([2, 2]) (2)) := L7.out.go (by omega) hB
  have L13 : Hid (MidC (w.heap.size + 1 + 1) (w.heap.size + 1 + 1 + 1) v1 (some ⟨w.heap.size + 1 + 1, 0, none⟩) ([1, 2, 3, 4]) (4)) := L8.out.go (by omega) hB
  have hb14 : Hid (Below w.heap.size w v1) := hb9.out.trans (hB.mono hb9.out.size)
  have L15 : Hid (MidC (wo4.heap.size) (v1.heap.size) v1 (f1) ([2]) (g1)) := hX0.midc
  have L16 : Hid (MidC (wo4.heap.size) (v1.heap.size) v1 (f2) ([4, 6]) (g2)) := hY0.midc
  clear hB hb9 B6 L7 L8 hX0 hY0
  clear L12 L13
  have n17 := Abx.new v1 (.bool false) (.slice f1 1 g1) (.slice f2 2 g2)
  have l18 := (n17).c0
  have l19 := (n17).c1
  have l20 := (n17).c2
  have n21 := lit_mid (v1.alloc (.cells #[.bool false, .slice f1 1 g1, .slice f2 2 g2] 25)) 3 [4, 6] 2 rfl
  simp only [World.size_alloc, List.map_cons, List.map_nil] at n21
  go_wp2_with fail
  obtain ⟨wo22, hwo22⟩ : ∃ wo22, wo22 = ((v1.alloc (.cells #[.bool false, .slice f1 1 g1, .slice f2 2 g2] 25)).alloc (.cells #[.int .i64 4, .int .i64 6] 3)) := ⟨_, rfl⟩
  rw [← hwo22]
  have z23 : v1.heap.size + 1 + 1 ≤ wo22.heap.size := by rw [hwo22]; simp only [World.size_alloc]; omega
  have B24 : Hid (Abx wo22 (w.heap.size) (.bool c1) (.slice sa1 sz1.length sc1) (.slice da1 dz1.length dc1)) := by rw [hwo22]; exact ((B11.out.al (.cells #[.bool false, .slice f1 1 g1, .slice f2 2 g2] 25)).al (.cells #[.int .i64 4, .int .i64 6] 3))
  have B25 : Hid (Abx wo22 (v1.heap.size) (.bool false) (.slice f1 1 g1) (.slice f2 2 g2)) := by rw [hwo22]; exact (n17.al (.cells #[.int .i64 4, .int .i64 6] 3))
  have L26 : Hid (MidC (wo4.heap.size) (v1.heap.size) wo22 (f1) ([2]) (g1)) := by rw [hwo22]; exact ((L15.out.al (by omega) (.cells #[.bool false, .slice f1 1 g1, .slice f2 2 g2] 25)).al (by simp only [World.size_alloc]; omega) (.cells #[.int .i64 4, .int .i64 6] 3))
  have L27 : Hid (MidC (wo4.heap.size) (v1.heap.size) wo22 (f2) ([4, 6]) (g2)) := by rw [hwo22]; exact ((L16.out.al (by omega) (.cells #[.bool false, .slice f1 1 g1, .slice f2 2 g2] 25)).al (by simp only [World.size_alloc]; omega) (.cells #[.int .i64 4, .int .i64 6] 3))
  have L28 : Hid (MidC (v1.heap.size + 1) (v1.heap.size + 1 + 1) wo22 (some ⟨v1.heap.size + 1, 0, none⟩) ([4, 6]) (2)) := by rw [hwo22]; exact n21
  have hb29 : Hid (Below w.heap.size w wo22) := by rw [hwo22]; exact ((hb14.out.alloc (by omega) (.cells #[.bool false, .slice f1 1 g1, .slice f2 2 g2] 25)).alloc (by simp only [World.size_alloc]; omega) (.cells #[.int .i64 4, .int .i64 6] 3))
  have zwo22 : w.heap.size ≤ wo22.heap.size := hb29.out.size
  clear hwo22 n17 l18 l19 l20 n21 hb14 B11 L15 L16
  refine (ints_any f2 g2 [4, 6] (some ⟨v1.heap.size + 1, 0, none⟩) 2 [4, 6] (by simp) _ _ (L27.out.is (by omega)).1 (L28.out.is (by omega)).1).mono ?_
  rintro e v2 ⟨rfl, hB⟩
  have z30 : wo22.heap.size ≤ v2.heap.size := hB.size
  have B31 : Hid (Abx v2 (w.heap.size) (.bool c1) (.slice sa1 sz1.length sc1) (.slice da1 dz1.length dc1)) := B24.out.go hB
  have B32 : Hid (Abx v2 (v1.heap.size) (.bool false) (.slice f1 1 g1) (.slice f2 2 g2)) := B25.out.go hB
  have L33 : Hid (MidC (wo4.heap.size) (v1.heap.size) v2 (f1) ([2]) (g1)) := L26.out.go (by omega) hB
  have L34 : Hid (MidC (wo4.heap.size) (v1.heap.size) v2 (f2) ([4, 6]) (g2)) := L27.out.go (by omega) hB
  have L35 : Hid (MidC (v1.heap.size + 1) (v1.heap.size + 1 + 1) v2 (some ⟨v1.heap.size + 1, 0, none⟩) ([4, 6]) (2)) := L28.out.go (by omega) hB
  have hb36 : Hid (Below w.heap.size w v2) := hb29.out.trans (hB.mono hb29.out.size)
  clear hB hb29 B24 B25 L26 L27 L28
  rw [eqB_true rfl]
  clear L33 L34 L35 B32
  go_wp2_with fail
  refine (monoid_no f F2.out _).mono ?_
  rintro e v3 ⟨rfl, hB⟩
  have z37 : v2.heap.size ≤ v3.heap.size := hB.size
  have B38 : Hid (Abx v3 (w.heap.size) (.bool c1) (.slice sa1 sz1.length sc1) (.slice da1 dz1.length dc1)) := B31.out.go hB
  have hb39 : Hid (Below w.heap.size w v3) := hb36.out.trans (hB.mono hb36.out.size)
  clear hB hb36 B31
  go_wp2_with fail
  go_ret
  exact ⟨rfl, hb39.out⟩
set_option maxRecDepth 100000 in
set_option maxHeartbeats 8000000 in
theorem axes_low (HRd : CRd) (f i j : Int) (hf : In64 f) (hi : In64 i) (hj : In64 j) (c1 : Bool) (sa1 : Option Addr) (sc1 : Nat) (sz1 : List Int) (da1 : Option Addr) (dc1 : Nat) (dz1 : List Int) (w : World) (hg : HasErr w) (w8 : IsArrD w sa1 sz1 sc1 da1 dz1 dc1) (F2 : Hid (Mon f)) (hi0 : i < 0) :
    Calls Tryd.prog 5 #[.int .i64 f, .int .i64 i, .int .i64 j, .agg #[.bool c1, .slice sa1 sz1.length sc1, .slice da1 dz1.length dc1]] w fun e w' => e = .returned (.bool true) ∧ Below w.heap.size w w' := by
  obtain ⟨x11, x12, x3, x4, s64, T⟩ := w8
  have HI1 : Hid (IsC w.heap.size w sa1 sz1 sc1 ∧ IsC w.heap.size w da1 dz1 dc1 ∧ (∀ j, In64 (nth sz1 j)) ∧ ∀ j, In64 (nth dz1 j)) := ⟨x3, x4, s64, T⟩
  clear x3 x4 T s64
  have HG : Hid (HasErr w) := hg
  clear hg
  have n1 := Abx.new w (.bool c1) (.slice sa1 sz1.length sc1) (.slice da1 dz1.length dc1)
  have n2 := lit_mid (w.alloc (.cells #[.bool c1, .slice sa1 sz1.length sc1, .slice da1 dz1.length dc1] 25)) 3 [2, 2] 2 rfl
  simp only [World.size_alloc, List.map_cons, List.map_nil] at n2
  have n3 := lit_mid ((w.alloc (.cells #[.bool c1, .slice sa1 sz1.length sc1, .slice da1 dz1.length dc1] 25)).alloc (.cells #[.int .i64 2, .int .i64 2] 3)) 3 [1, 2, 3, 4] 4 rfl
  simp only [World.size_alloc, List.map_cons, List.map_nil] at n3
  go_enter Tryd.func5, Tryd.ntmps5
  go_wp2_with fail
  obtain ⟨wo4, hwo4⟩ : ∃ wo4, wo4 = (((w.alloc (.cells #[.bool c1, .slice sa1 sz1.length sc1, .slice da1 dz1.length dc1] 25)).alloc (.cells #[.int .i64 2, .int .i64 2] 3)).alloc (.cells #[.int .i64 1, .int .i64 2, .int .i64 3, .int .i64 4] 3)) := ⟨_, rfl⟩
  rw [← hwo4]
  have z5 : w.heap.size + 1 + 1 + 1 ≤ wo4.heap.size := by rw [hwo4]; simp only [World.size_alloc]; omega
  have B6 : Hid (Abx wo4 (w.heap.size) (.bool c1) (.slice sa1 sz1.length sc1) (.slice da1 dz1.length dc1)) := by rw [hwo4]; exact ((n1.al (.cells #[.int .i64 2, .int .i64 2] 3)).al (.cells #[.int .i64 1, .int .i64 2, .int .i64 3, .int .i64 4] 3))
  have L7 : Hid (MidC (w.heap.size + 1) (w.heap.size + 1 + 1) wo4 (some ⟨w.heap.size + 1, 0, none⟩) ([2, 2]) (2)) := by rw [hwo4]; exact (n2.al (by simp only [World.size_alloc]; omega) (.cells #[.int .i64 1, .int .i64 2, .int .i64 3, .int .i64 4] 3))
  have L8 : Hid (MidC (w.heap.size + 1 + 1) (w.heap.size + 1 + 1 + 1) wo4 (some ⟨w.heap.size + 1 + 1, 0, none⟩) ([1, 2, 3, 4]) (4)) := by rw [hwo4]; exact n3
  have hb9 : Hid (Below w.heap.size w wo4) := by rw [hwo4]; exact ((((Below.refl w.heap.size w).alloc (by omega) (.cells #[.bool c1, .slice sa1 sz1.length sc1, .slice da1 dz1.length dc1] 25)).alloc (by simp only [World.size_alloc]; omega) (.cells #[.int .i64 2, .int .i64 2] 3)).alloc (by simp only [World.size_alloc]; omega) (.cells #[.int .i64 1, .int .i64 2, .int .i64 3, .int .i64 4] 3))
  have zwo4 : w.heap.size ≤ wo4.heap.size := hb9.out.size
  clear hwo4 n1 n2 n3
  refine (rdw_ok 1 0 false (some ⟨w.heap.size + 1, 0, none⟩) 2 [2, 2] 2 rfl (some ⟨w.heap.size + 1 + 1, 0, none⟩) 4 [1, 2, 3, 4] 4 rfl _ (by unfold In64; decide) (by unfold In64; decide) (by decide) (by decide) (L7.out.is (by omega)) (L8.out.is (by omega)).1 (lit12 (by decide)) [2] [4, 6] HRd (by show rdE 1 0 false [2, 2] [1, 2, 3, 4] = 0 ∧ xout (0 : Int).toNat [2, 2] = [2] ∧ rdD 1 [2, 2] [1, 2, 3, 4] (0 : Int).toNat = [4, 6]; decide +kernel)).mono ?_
  rintro e v1 ⟨f1, g1, f2, g2, rfl, hX0, hY0, hB⟩
  have z10 : wo4.heap.size ≤ v1.heap.size := hB.size
  have B11 : Hid (Abx v1 (w.heap.size) (.bool c1) (.slice sa1 sz1.length sc1) (.slice da1 dz1.length dc1)) := B6.out.go hB
  have L12 : Hid (MidC (w.heap.size + 1) (w.heap.size + 1 + 1) v1 (some ⟨w.heap.size + 1, 0, none⟩) ([2, 2]) (2)) := L7.out.go (by omega) hB
  have L13 : Hid (MidC (w.heap.size + 1 + 1) (w.heap.size + 1 + 1 + 1) v1 (some ⟨w.heap.size + 1 + 1, 0, none⟩) ([1, 2, 3, 4]) (4)) := L8.out.go (by omega) hB
  have hb14 : Hid (Below w.heap.size w v1) := hb9.out.trans (hB.mono hb9.out.size)
  have L15 : Hid (MidC (wo4.heap.size) (v1.heap.size) v1 (f1) ([2]) (g1)) := hX0.midc
  have L16 : Hid (MidC (wo4.heap.size) (v1.heap.size) v1 (f2) ([4, 6]) (g2)) := hY0.midc
  clear hB hb9 B6 L7 L8 hX0 hY0
  clear L12 L13
  have n17 := Abx.new v1 (.bool false) (.slice f1 1 g1) (.slice f2 2 g2)
  have l18 := (n17).c0
  have l19 := (n17).c1
  have l20 := (n17).c2
  have n21 := lit_mid (v1.alloc (.cells #[.bool false, .slice f1 1 g1, .slice f2 2 g2] 25)) 3 [4, 6] 2 rfl
  simp only [World.size_alloc, List.map_cons, List.map_nil] at n21
  go_wp2_with fail
  obtain ⟨wo22, hwo22⟩ : ∃ wo22, wo22 = ((v1.alloc (.cells #[.bool false, .slice f1 1 g1, .slice f2 2 g2] 25)).alloc (.cells #[.int .i64 4, .int .i64 6] 3)) := ⟨_, rfl⟩
  rw [← hwo22]
  have z23 : v1.heap.size + 1 + 1 ≤ wo22.heap.size := by rw [hwo22]; simp only [World.size_alloc]; omega
  have B24 : Hid (Abx wo22 (w.heap.size) (.bool c1) (.slice sa1 sz1.length sc1) (.slice da1 dz1.length dc1)) := by rw [hwo22]; exact ((B11.out.al (.cells #[.bool false, .slice f1 1 g1, .slice f2 2 g2] 25)).al (.cells #[.int .i64 4, .int .i64 6] 3))
  have B25 : Hid (Abx wo22 (v1.heap.size) (.bool false) (.slice f1 1 g1) (.slice f2 2 g2)) := by rw [hwo22]; exact (n17.al (.cells #[.int .i64 4, .int .i64 6] 3))
  have L26 : Hid (MidC (wo4.heap.size) (v1.heap.size) wo22 (f1) ([2]) (g1)) := by rw [hwo22]; exact ((L15.out.al (by omega) (.cells #[.bool false, .slice f1 1 g1, .slice f2 2 g2] 25)).al (by simp only [World.size_alloc]; omega) (.cells #[.int .i64 4, .int .i64 6] 3))
  have L27 : Hid (MidC (wo4.heap.size) (v1.heap.size) wo22 (f2) ([4, 6]) (g2)) := by rw [hwo22]; exact ((L16.out.al (by omega) (.cells #[.bool false, .slice f1 1 g1, .slice f2 2 g2] 25)).al (by simp only [World.size_alloc]; omega) (.cells #[.int .i64 4, .int .i64 6] 3))
  have L28 : Hid (MidC (v1.heap.size + 1) (v1.heap.size + 1 + 1) wo22 (some ⟨v1.heap.size + 1, 0, none⟩) ([4, 6]) (2)) := by rw [hwo22]; exact n21
  have hb29 : Hid (Below w.heap.size w wo22) := by rw [hwo22]; exact ((hb14.out.alloc (by omega) (.cells #[.bool false, .slice f1 1 g1, .slice f2 2 g2] 25)).alloc (by simp only [World.size_alloc]; omega) (.cells #[.int .i64 4, .int .i64 6] 3))
  have zwo22 : w.heap.size ≤ wo22.heap.size := hb29.out.size
  clear hwo22 n17 l18 l19 l20 n21 hb14 B11 L15 L16
  refine (ints_any f2 g2 [4, 6] (some ⟨v1.heap.size + 1, 0, none⟩) 2 [4, 6] (by simp) _ _ (L27.out.is (by omega)).1 (L28.out.is (by omega)).1).mono ?_
  rintro e v2 ⟨rfl, hB⟩
  have z30 : wo22.heap.size ≤ v2.heap.size := hB.size
  have B31 : Hid (Abx v2 (w.heap.size) (.bool c1) (.slice sa1 sz1.length sc1) (.slice da1 dz1.length dc1)) := B24.out.go hB
  have B32 : Hid (Abx v2 (v1.heap.size) (.bool false) (.slice f1 1 g1) (.slice f2 2 g2)) := B25.out.go hB
  have L33 : Hid (MidC (wo4.heap.size) (v1.heap.size) v2 (f1) ([2]) (g1)) := L26.out.go (by omega) hB
  have L34 : Hid (MidC (wo4.heap.size) (v1.heap.size) v2 (f2) ([4, 6]) (g2)) := L27.out.go (by omega) hB
  have L35 : Hid (MidC (v1.heap.size + 1) (v1.heap.size + 1 + 1) v2 (some ⟨v1.heap.size + 1, 0, none⟩) ([4, 6]) (2)) := L28.out.go (by omega) hB
  have hb36 : Hid (Below w.heap.size w v2) := hb29.out.trans (hB.mono hb29.out.size)
  clear hB hb29 B24 B25 L26 L27 L28
  rw [eqB_true rfl]
  clear L33 L34 L35 B32
  go_wp2_with fail
  refine (monoid_yes f F2.out _).mono ?_
  rintro e v3 ⟨rfl, hB⟩
  have z37 : v2.heap.size ≤ v3.heap.size := hB.size
  have B38 : Hid (Abx v3 (w.heap.size) (.bool c1) (.slice sa1 sz1.length sc1) (.slice da1 dz1.length dc1)) := B31.out.go hB
  have hb39 : Hid (Below w.heap.size w v3) := hb36.out.trans (hB.mono hb36.out.size)
  clear hB hb36 B31
  go_wp2_with fail
  go_ret
  exact ⟨rfl, hb39.out⟩
set_option maxRecDepth 100000 in
set_option maxHeartbeats 8000000 in
theorem axes_behind (HRd : CRd) (f i j : Int) (hf : In64 f) (hi : In64 i) (hj : In64 j) (c1 : Bool) (sa1 : Option Addr) (sc1 : Nat) (sz1 : List Int) (da1 : Option Addr) (dc1 : Nat) (dz1 : List Int) (w : World) (hg : HasErr w) (w8 : IsArrD w sa1 sz1 sc1 da1 dz1 dc1) (F2 : Hid (Mon f)) (hi0 : ¬ i < 0) (hij : j ≤ i) :
    Calls Tryd.prog 5 #[.int .i64 f, .int .i64 i, .int .i64 j, .agg #[.bool c1, .slice sa1 sz1.length sc1, .slice da1 dz1.length dc1]] w fun e w' => e = .returned (.bool true) ∧ Below w.heap.size w w' := by
  obtain ⟨x11, x12, x3, x4, s64, T⟩ := w8
  have HI1 : Hid (IsC w.heap.size w sa1 sz1 sc1 ∧ IsC w.heap.size w da1 dz1 dc1 ∧ (∀ j, In64 (nth sz1 j)) ∧ ∀ j, In64 (nth dz1 j)) := ⟨x3, x4, s64, T⟩
  clear x3 x4 T s64
  have HG : Hid (HasErr w) := hg
  clear hg
  have n1 := Abx.new w (.bool c1) (.slice sa1 sz1.length sc1) (.slice da1 dz1.length dc1)
  have n2 := lit_mid (w.alloc (.cells #[.bool c1, .slice sa1 sz1.length sc1, .slice da1 dz1.length dc1] 25)) 3 [2, 2] 2 rfl
  simp only [World.size_alloc, List.map_cons, List.map_nil] at n2
  have n3 := lit_mid ((w.alloc (.cells #[.bool c1, .slice sa1 sz1.length sc1, .slice da1 dz1.length dc1] 25)).alloc (.cells #[.int .i64 2, .int .i64 2] 3)) 3 [1, 2, 3, 4] 4 rfl
  simp only [World.size_alloc, List.map_cons, List.map_nil] at n3
  go_enter Tryd.func5, Tryd.ntmps5
  go_wp2_with fail
  obtain ⟨wo4, hwo4⟩ : ∃ wo4, wo4 = (((w.alloc (.cells #[.bool c1, .slice sa1 sz1.length sc1, .slice da1 dz1.length dc1] 25)).alloc (.cells #[.int .i64 2, .int .i64 2] 3)).alloc (.cells #[.int .i64 1, .int .i64 2, .int .i64 3, .int .i64 4] 3)) := ⟨_, rfl⟩
  rw [← hwo4]
  have z5 : w.heap.size + 1 + 1 + 1 ≤ wo4.heap.size := by rw [hwo4]; simp only [World.size_alloc]; omega
  have B6 : Hid (Abx wo4 (w.heap.size) (.bool c1) (.slice sa1 sz1.length sc1) (.slice da1 dz1.length dc1)) := by rw [hwo4]; exact ((n1.al (.cells #[.int .i64 2, .int .i64 2] 3)).al (.cells #[.int .i64 1, .int .i64 2, .int .i64 3, .int .i64 4] 3))
  have L7 : Hid (MidC (w.heap.size + 1) (w.heap.size + 1 + 1) wo4 (some ⟨w.heap.size + 1, 0, none⟩) ([2, 2]) (2)) := by rw [hwo4]; exact (n2.al (by simp only [World.size_alloc]; omega) (.cells #[.int .i64 1, .int .i64 2, .int .i64 3, .int .i64 4] 3))
  have L8 : Hid (MidC (w.heap.size + 1 + 1) (w.heap.size + 1 + 1 + 1) wo4 (some ⟨w.heap.size + 1 + 1, 0, none⟩) ([1, 2, 3, 4]) (4)) := by rw [hwo4]; exact n3
  have hb9 : Hid (Below w.heap.size w wo4) := by rw [hwo4]; exact ((((Below.refl w.heap.size w).alloc (by omega) (.cells #[.bool c1, .slice sa1 sz1.length sc1, .slice da1 dz1.length dc1] 25)).alloc (by simp only [World.size_alloc]; omega) (.cells #[.int .i64 2, .int .i64 2] 3)).alloc (by simp only [World.size_alloc]; omega) (.cells #[.int .i64 1, .int .i64 2, .int .i64 3, .int .i64 4] 3))
  have zwo4 : w.heap.size ≤ wo4.heap.size := hb9.out.size
  clear hwo4 n1 n2 n3
  refine (rdw_ok 1 0 false (some ⟨w.heap.size + 1, 0, none⟩) 2 [2, 2] 2 rfl (some ⟨w.heap.size + 1 + 1, 0, none⟩) 4 [1, 2, 3, 4] 4 rfl _ (by unfold In64; decide) (by unfold In64; decide) (by decide) (by decide) (L7.out.is (by omega)) (L8.out.is (by omega)).1 (lit12 (by decide)) [2] [4, 6] HRd (by show rdE 1 0 false [2, 2] [1, 2, 3, 4] = 0 ∧ xout (0 : Int).toNat [2, 2] = [2] ∧ rdD 1 [2, 2] [1, 2, 3, 4] (0 : Int).toNat = [4, 6]; decide +kernel)).mono ?_
  rintro e v1 ⟨f1, g1, f2, g2, rfl, hX0, hY0, hB⟩
  have z10 : wo4.heap.size ≤ v1.heap.size := hB.size
  have B11 : Hid (Abx v1 (w.heap.size) (.bool c1) (.slice sa1 sz1.length sc1) (.slice da1 dz1.length dc1)) := B6.out.go hB
  have L12 : Hid (MidC (w.heap.size + 1) (w.heap.size + 1 + 1) v1 (some ⟨w.heap.size + 1, 0, none⟩) ([2, 2]) (2)) := L7.out.go (by omega) hB
  have L13 : Hid (MidC (w.heap.size + 1 + 1) (w.heap.size + 1 + 1 + 1) v1 (some ⟨w.heap.size + 1 + 1, 0, none⟩) ([1, 2, 3, 4]) (4)) := L8.out.go (by omega) hB
  have hb14 : Hid (Below w.heap.size w v1) := hb9.out.trans (hB.mono hb9.out.size)
  have L15 : Hid (MidC (wo4.heap.size) (v1.heap.size) v1 (f1) ([2]) (g1)) := hX0.midc
  have L16 : Hid (MidC (wo4.heap.size) (v1.heap.size) v1 (f2) ([4, 6]) (g2)) := hY0.midc
  clear hB hb9 B6 L7 L8 hX0 hY0
  clear L12 L13
  have n17 := Abx.new v1 (.bool false) (.slice f1 1 g1) (.slice f2 2 g2)
  have l18 := (n17).c0
  have l19 := (n17).c1
  have l20 := (n17).c2
  have n21 := lit_mid (v1.alloc (.cells #[.bool false, .slice f1 1 g1, .slice f2 2 g2] 25)) 3 [4, 6] 2 rfl
  simp only [World.size_alloc, List.map_cons, List.map_nil] at n21
  go_wp2_with fail
  obtain ⟨wo22, hwo22⟩ : ∃ wo22, wo22 = ((v1.alloc (.cells #[.bool false, .slice f1 1 g1, .slice f2 2 g2] 25)).alloc (.cells #[.int .i64 4, .int .i64 6] 3)) := ⟨_, rfl⟩
  rw [← hwo22]
  have z23 : v1.heap.size + 1 + 1 ≤ wo22.heap.size := by rw [hwo22]; simp only [World.size_alloc]; omega
  have B24 : Hid (Abx wo22 (w.heap.size) (.bool c1) (.slice sa1 sz1.length sc1) (.slice da1 dz1.length dc1)) := by rw [hwo22]; exact ((B11.out.al (.cells #[.bool false, .slice f1 1 g1, .slice f2 2 g2] 25)).al (.cells #[.int .i64 4, .int .i64 6] 3))
  have B25 : Hid (Abx wo22 (v1.heap.size) (.bool false) (.slice f1 1 g1) (.slice f2 2 g2)) := by rw [hwo22]; exact (n17.al (.cells #[.int .i64 4, .int .i64 6] 3))
  have L26 : Hid (MidC (wo4.heap.size) (v1.heap.size) wo22 (f1) ([2]) (g1)) := by rw [hwo22]; exact ((L15.out.al (by omega) (.cells #[.bool false, .slice f1 1 g1, .slice f2 2 g2] 25)).al (by simp only [World.size_alloc]; omega) (.cells #[.int .i64 4, .int .i64 6] 3))
  have L27 : Hid (MidC (wo4.heap.size) (v1.heap.size) wo22 (f2) ([4, 6]) (g2)) := by rw [hwo22]; exact ((L16.out.al (by omega) (.cells #[.bool false, .slice f1 1 g1, .slice f2 2 g2] 25)).al (by simp only [World.size_alloc]; omega) (.cells #[.int .i64 4, .int .i64 6] 3))
  have L28 : Hid (MidC (v1.heap.size + 1) (v1.heap.size + 1 + 1) wo22 (some ⟨v1.heap.size + 1, 0, none⟩) ([4, 6]) (2)) := by rw [hwo22]; exact n21
  have hb29 : Hid (Below w.heap.size w wo22) := by rw [hwo22]; exact ((hb14.out.alloc (by omega) (.cells #[.bool false, .slice f1 1 g1, .slice f2 2 g2] 25)).alloc (by simp only [World.size_alloc]; omega) (.cells #[.int .i64 4, .int .i64 6] 3))
  have zwo22 : w.heap.size ≤ wo22.heap.size := hb29.out.size
  clear hwo22 n17 l18 l19 l20 n21 hb14 B11 L15 L16
  refine (ints_any f2 g2 [4, 6] (some ⟨v1.heap.size + 1, 0, none⟩) 2 [4, 6] (by simp) _ _ (L27.out.is (by omega)).1 (L28.out.is (by omega)).1).mono ?_
  rintro e v2 ⟨rfl, hB⟩
  have z30 : wo22.heap.size ≤ v2.heap.size := hB.size
  have B31 : Hid (Abx v2 (w.heap.size) (.bool c1) (.slice sa1 sz1.length sc1) (.slice da1 dz1.length dc1)) := B24.out.go hB
  have B32 : Hid (Abx v2 (v1.heap.size) (.bool false) (.slice f1 1 g1) (.slice f2 2 g2)) := B25.out.go hB
  have L33 : Hid (MidC (wo4.heap.size) (v1.heap.size) v2 (f1) ([2]) (g1)) := L26.out.go (by omega) hB
  have L34 : Hid (MidC (wo4.heap.size) (v1.heap.size) v2 (f2) ([4, 6]) (g2)) := L27.out.go (by omega) hB
  have L35 : Hid (MidC (v1.heap.size + 1) (v1.heap.size + 1 + 1) v2 (some ⟨v1.heap.size + 1, 0, none⟩) ([4, 6]) (2)) := L28.out.go (by omega) hB
  have hb36 : Hid (Below w.heap.size w v2) := hb29.out.trans (hB.mono hb29.out.size)
  clear hB hb29 B24 B25 L26 L27 L28
  rw [eqB_true rfl]
  clear L33 L34 L35 B32
  go_wp2_with fail
  refine (monoid_yes f F2.out _).mono ?_
  rintro e v3 ⟨rfl, hB⟩
  have z37 : v2.heap.size ≤ v3.heap.size := hB.size
  have B38 : Hid (Abx v3 (w.heap.size) (.bool c1) (.slice sa1 sz1.length sc1) (.slice da1 dz1.length dc1)) := B31.out.go hB
  have hb39 : Hid (Below w.heap.size w v3) := hb36.out.trans (hB.mono hb36.out.size)
  clear hB hb36 B31
  go_wp2_with fail
  go_ret
  exact ⟨rfl, hb39.out⟩
set_option maxRecDepth 100000 in
set_option maxHeartbeats 8000000 in
theorem axes_nn (HRd : CRd) (f i j : Int) (hf : In64 f) (hi : In64 i) (hj : In64 j) (c1 : Bool) (sa1 : Option Addr) (sc1 : Nat) (sz1 : List Int) (da1 : Option Addr) (dc1 : Nat) (dz1 : List Int) (w : World) (hg : HasErr w) (w8 : IsArrD w sa1 sz1 sc1 da1 dz1 dc1) (F2 : Hid (Mon f)) (hi0 : ¬ i < 0) (hij : ¬ j ≤ i) (G1 : Hid (rdE f j c1 sz1 dz1 ≠ 0)) (G2 : Hid (rdE f i c1 sz1 dz1 ≠ 0)) :
    Calls Tryd.prog 5 #[.int .i64 f, .int .i64 i, .int .i64 j, .agg #[.bool c1, .slice sa1 sz1.length sc1, .slice da1 dz1.length dc1]] w fun e w' => e = .returned (.bool true) ∧ Below w.heap.size w w' := by
  obtain ⟨E1, hE1⟩ : ∃ E, E = rdE f j c1 sz1 dz1 := ⟨_, rfl⟩
  have HE1 : Hid (rdE f j c1 sz1 dz1 = E1 ∧ E1 ≠ 0) := ⟨hE1.symm, by rw [hE1]; exact G1.out⟩
  clear hE1
  obtain ⟨E2, hE2⟩ : ∃ E, E = rdE f i c1 sz1 dz1 := ⟨_, rfl⟩
  have HE2 : Hid (rdE f i c1 sz1 dz1 = E2 ∧ E2 ≠ 0) := ⟨hE2.symm, by rw [hE2]; exact G2.out⟩
  clear hE2
  obtain ⟨x11, x12, x3, x4, s64, T⟩ := w8
  have HI1 : Hid (IsC w.heap.size w sa1 sz1 sc1 ∧ IsC w.heap.size w da1 dz1 dc1 ∧ (∀ j, In64 (nth sz1 j)) ∧ ∀ j, In64 (nth dz1 j)) := ⟨x3, x4, s64, T⟩
  clear x3 x4 T s64
  have HG : Hid (HasErr w) := hg
  clear hg
  have n1 := Abx.new w (.bool c1) (.slice sa1 sz1.length sc1) (.slice da1 dz1.length dc1)
  have n2 := lit_mid (w.alloc (.cells #[.bool c1, .slice sa1 sz1.length sc1, .slice da1 dz1.length dc1] 25)) 3 [2, 2] 2 rfl
  simp only [World.size_alloc, List.map_cons, List.map_nil] at n2
  have n3 := lit_mid ((w.alloc (.cells #[.bool c1, .slice sa1 sz1.length sc1, .slice da1 dz1.length dc1] 25)).alloc (.cells #[.int .i64 2, .int .i64 2] 3)) 3 [1, 2, 3, 4] 4 rfl
  simp only [World.size_alloc, List.map_cons, List.map_nil] at n3
  go_enter Tryd.func5, Tryd.ntmps5
  go_wp2_with fail
  obtain ⟨wo4, hwo4⟩ : ∃ wo4, wo4 = (((w.alloc (.cells #[.bool c1, .slice sa1 sz1.length sc1, .slice da1 dz1.length dc1] 25)).alloc (.cells #[.int .i64 2, .int .i64 2] 3)).alloc (.cells #[.int .i64 1, .int .i64 2, .int .i64 3, .int .i64 4] 3)) := ⟨_, rfl⟩
  rw [← hwo4]
  have z5 : w.heap.size + 1 + 1 + 1 ≤ wo4.heap.size := by rw [hwo4]; simp only [World.size_alloc]; omega
  have B6 : Hid (Abx wo4 (w.heap.size) (.bool c1) (.slice sa1 sz1.length sc1) (.slice da1 dz1.length dc1)) := by rw [hwo4]; exact ((n1.al (.cells #[.int .i64 2, .int .i64 2] 3)).al (.cells #[.int .i64 1, .int .i64 2, .int .i64 3, .int .i64 4] 3))
  have L7 : Hid (MidC (w.heap.size + 1) (w.heap.size + 1 + 1) wo4 (some ⟨w.heap.size + 1, 0, none⟩) ([2, 2]) (2)) := by rw [hwo4]; exact (n2.al (by simp only [World.size_alloc]; omega) (.cells #[.int .i64 1, .int .i64 2, .int .i64 3, .int .i64 4] 3))
  have L8 : Hid (MidC (w.heap.size + 1 + 1) (w.heap.size + 1 + 1 + 1) wo4 (some ⟨w.heap.size + 1 + 1, 0, none⟩) ([1, 2, 3, 4]) (4)) := by rw [hwo4]; exact n3
  have hb9 : Hid (Below w.heap.size w wo4) := by rw [hwo4]; exact ((((Below.refl w.heap.size w).alloc (by omega) (.cells #[.bool c1, .slice sa1 sz1.length sc1, .slice da1 dz1.length dc1] 25)).alloc (by simp only [World.size_alloc]; omega) (.cells #[.int .i64 2, .int .i64 2] 3)).alloc (by simp only [World.size_alloc]; omega) (.cells #[.int .i64 1, .int .i64 2, .int .i64 3, .int .i64 4] 3))
  have zwo4 : w.heap.size ≤ wo4.heap.size := hb9.out.size
  clear hwo4 n1 n2 n3
  refine (rdw_ok 1 0 false (some ⟨w.heap.size + 1, 0, none⟩) 2 [2, 2] 2 rfl (some ⟨w.heap.size + 1 + 1, 0, none⟩) 4 [1, 2, 3, 4] 4 rfl _ (by unfold In64; decide) (by unfold In64; decide) (by decide) (by decide) (L7.out.is (by omega)) (L8.out.is (by omega)).1 (lit12 (by decide)) [2] [4, 6] HRd (by show rdE 1 0 false [2, 2] [1, 2, 3, 4] = 0 ∧ xout (0 : Int).toNat [2, 2] = [2] ∧ rdD 1 [2, 2] [1, 2, 3, 4] (0 : Int).toNat = [4, 6]; decide +kernel)).mono ?_
  rintro e v1 ⟨f1, g1, f2, g2, rfl, hX0, hY0, hB⟩
  have z10 : wo4.heap.size ≤ v1.heap.size := hB.size
  have B11 : Hid (Abx v1 (w.heap.size) (.bool c1) (.slice sa1 sz1.length sc1) (.slice da1 dz1.length dc1)) := B6.out.go hB
  have L12 : Hid (MidC (w.heap.size + 1) (w.heap.size + 1 + 1) v1 (some ⟨w.heap.size + 1, 0, none⟩) ([2, 2]) (2)) := L7.out.go (by omega) hB
  have L13 : Hid (MidC (w.heap.size + 1 + 1) (w.heap.size + 1 + 1 + 1) v1 (some ⟨w.heap.size + 1 + 1, 0, none⟩) ([1, 2, 3, 4]) (4)) := L8.out.go (by omega) hB
  have hb14 : Hid (Below w.heap.size w v1) := hb9.out.trans (hB.mono hb9.out.size)
  have L15 : Hid (MidC (wo4.heap.size) (v1.heap.size) v1 (f1) ([2]) (g1)) := hX0.midc
  have L16 : Hid (MidC (wo4.heap.size) (v1.heap.size) v1 (f2) ([4, 6]) (g2)) := hY0.midc
  clear hB hb9 B6 L7 L8 hX0 hY0
  clear L12 L13
  have n17 := Abx.new v1 (.bool false) (.slice f1 1 g1) (.slice f2 2 g2)
  have l18 := (n17).c0
  have l19 := (n17).c1
  have l20 := (n17).c2
  have n21 := lit_mid (v1.alloc (.cells #[.bool false, .slice f1 1 g1, .slice f2 2 g2] 25)) 3 [4, 6] 2 rfl
  simp only [World.size_alloc, List.map_cons, List.map_nil] at n21
  go_wp2_with fail
  obtain ⟨wo22, hwo22⟩ : ∃ wo22, wo22 = ((v1.alloc (.cells #[.bool false, .slice f1 1 g1, .slice f2 2 g2] 25)).alloc (.cells #[.int .i64 4, .int .i64 6] 3)) := ⟨_, rfl⟩
  rw [← hwo22]
  have z23 : v1.heap.size + 1 + 1 ≤ wo22.heap.size := by rw [hwo22]; simp only [World.size_alloc]; omega
  have B24 : Hid (Abx wo22 (w.heap.size) (.bool c1) (.slice sa1 sz1.length sc1) (.slice da1 dz1.length dc1)) := by rw [hwo22]; exact ((B11.out.al (.cells #[.bool false, .slice f1 1 g1, .slice f2 2 g2] 25)).al (.cells #[.int .i64 4, .int .i64 6] 3))
  have B25 : Hid (Abx wo22 (v1.heap.size) (.bool false) (.slice f1 1 g1) (.slice f2 2 g2)) := by rw [hwo22]; exact (n17.al (.cells #[.int .i64 4, .int .i64 6] 3))
  have L26 : Hid (MidC (wo4.heap.size) (v1.heap.size) wo22 (f1) ([2]) (g1)) := by rw [hwo22]; exact ((L15.out.al (by omega) (.cells #[.bool false, .slice f1 1 g1, .slice f2 2 g2] 25)).al (by simp only [World.size_alloc]; omega) (.cells #[.int .i64 4, .int .i64 6] 3))
  have L27 : Hid (MidC (wo4.heap.size) (v1.heap.size) wo22 (f2) ([4, 6]) (g2)) := by rw [hwo22]; exact ((L16.out.al (by omega) (.cells #[.bool false, .slice f1 1 g1, .slice f2 2 g2] 25)).al (by simp only [World.size_alloc]; omega) (.cells #[.int .i64 4, .int .i64 6] 3))
  have L28 : Hid (MidC (v1.heap.size + 1) (v1.heap.size + 1 + 1) wo22 (some ⟨v1.heap.size + 1, 0, none⟩) ([4, 6]) (2)) := by rw [hwo22]; exact n21
  have hb29 : Hid (Below w.heap.size w wo22) := by rw [hwo22]; exact ((hb14.out.alloc (by omega) (.cells #[.bool false, .slice f1 1 g1, .slice f2 2 g2] 25)).alloc (by simp only [World.size_alloc]; omega) (.cells #[.int .i64 4, .int .i64 6] 3))
  have zwo22 : w.heap.size ≤ wo22.heap.size := hb29.out.size
  clear hwo22 n17 l18 l19 l20 n21 hb14 B11 L15 L16
  refine (ints_any f2 g2 [4, 6] (some ⟨v1.heap.size + 1, 0, none⟩) 2 [4, 6] (by simp) _ _ (L27.out.is (by omega)).1 (L28.out.is (by omega)).1).mono ?_
  rintro e v2 ⟨rfl, hB⟩
  have z30 : wo22.heap.size ≤ v2.heap.size := hB.size
  have B31 : Hid (Abx v2 (w.heap.size) (.bool c1) (.slice sa1 sz1.length sc1) (.slice da1 dz1.length dc1)) := B24.out.go hB
  have B32 : Hid (Abx v2 (v1.heap.size) (.bool false) (.slice f1 1 g1) (.slice f2 2 g2)) := B25.out.go hB
  have L33 : Hid (MidC (wo4.heap.size) (v1.heap.size) v2 (f1) ([2]) (g1)) := L26.out.go (by omega) hB
  have L34 : Hid (MidC (wo4.heap.size) (v1.heap.size) v2 (f2) ([4, 6]) (g2)) := L27.out.go (by omega) hB
  have L35 : Hid (MidC (v1.heap.size + 1) (v1.heap.size + 1 + 1) v2 (some ⟨v1.heap.size + 1, 0, none⟩) ([4, 6]) (2)) := L28.out.go (by omega) hB
  have hb36 : Hid (Below w.heap.size w v2) := hb29.out.trans (hB.mono hb29.out.size)
  clear hB hb29 B24 B25 L26 L27 L28
  rw [eqB_true rfl]
  clear L33 L34 L35 B32
  go_wp2_with fail
  refine (monoid_yes f F2.out _).mono ?_
  rintro e v3 ⟨rfl, hB⟩
  have z37 : v2.heap.size ≤ v3.heap.size := hB.size
  have B38 : Hid (Abx v3 (w.heap.size) (.bool c1) (.slice sa1 sz1.length sc1) (.slice da1 dz1.length dc1)) := B31.out.go hB
  have hb39 : Hid (Below w.heap.size w v3) := hb36.out.trans (hB.mono hb36.out.size)
  clear hB hb36 B31
  have l40 := (B38.out).c0
  have l41 := (B38.out).c1
  have l42 := (B38.out).c2
  go_wp2_with fail
  clear l40 l41 l42
  refine (rdw_no f j c1 sa1 sc1 sz1 sz1.length rfl da1 dc1 dz1 dz1.length rfl _ hf hj x11 x12 ((HI1.out.1.below hb39.out).mono hb39.out.size) ((HI1.out.2.1.1.below hb39.out).mono hb39.out.size) HI1.out.2.2.2 HRd E1 HE1.out).mono ?_
  rintro e v4 ⟨xa1, xc1, ya1, yc1, rfl, hB⟩
  have z43 : v3.heap.size ≤ v4.heap.size := hB.size
  have B44 : Hid (Abx v4 (w.heap.size) (.bool c1) (.slice sa1 sz1.length sc1) (.slice da1 dz1.length dc1)) := B38.out.go hB
  have hb45 : Hid (Below w.heap.size w v4) := hb39.out.trans (hB.mono hb39.out.size)
  clear hB hb39 B38
  have n46 := Abx.new v4 (.bool false) (.slice xa1 0 xc1) (.slice ya1 0 yc1)
  have l47 := ((B44.out.al (.cells #[.bool false, .slice xa1 0 xc1, .slice ya1 0 yc1] 25))).c0
  have l48 := ((B44.out.al (.cells #[.bool false, .slice xa1 0 xc1, .slice ya1 0 yc1] 25))).c1
  have l49 := ((B44.out.al (.cells #[.bool false, .slice xa1 0 xc1, .slice ya1 0 yc1] 25))).c2
  go_wp2_with fail
  obtain ⟨wo50, hwo50⟩ : ∃ wo50, wo50 = (v4.alloc (.cells #[.bool false, .slice xa1 0 xc1, .slice ya1 0 yc1] 25)) := ⟨_, rfl⟩
  rw [← hwo50]
  have z51 : v4.heap.size + 1 ≤ wo50.heap.size := by rw [hwo50]; simp only [World.size_alloc]; omega
  have B52 : Hid (Abx wo50 (w.heap.size) (.bool c1) (.slice sa1 sz1.length sc1) (.slice da1 dz1.length dc1)) := by rw [hwo50]; exact (B44.out.al (.cells #[.bool false, .slice xa1 0 xc1, .slice ya1 0 yc1] 25))
  have B53 : Hid (Abx wo50 (v4.heap.size) (.bool false) (.slice xa1 0 xc1) (.slice ya1 0 yc1)) := by rw [hwo50]; exact n46
  have hb54 : Hid (Below w.heap.size w wo50) := by rw [hwo50]; exact (hb45.out.alloc (by omega) (.cells #[.bool false, .slice xa1 0 xc1, .slice ya1 0 yc1] 25))
  have zwo50 : w.heap.size ≤ wo50.heap.size := hb54.out.size
  clear hwo50 n46 l47 l48 l49 hb45 B44
  refine (rdw_no f i c1 sa1 sc1 sz1 sz1.length rfl da1 dc1 dz1 dz1.length rfl _ hf hi x11 x12 ((HI1.out.1.below hb54.out).mono hb54.out.size) ((HI1.out.2.1.1.below hb54.out).mono hb54.out.size) HI1.out.2.2.2 HRd E2 HE2.out).mono ?_
  rintro e v5 ⟨xa2, xc2, ya2, yc2, rfl, hB⟩
  have z55 : wo50.heap.size ≤ v5.heap.size := hB.size
  have B56 : Hid (Abx v5 (w.heap.size) (.bool c1) (.slice sa1 sz1.length sc1) (.slice da1 dz1.length dc1)) := B52.out.go hB
  have B57 : Hid (Abx v5 (v4.heap.size) (.bool false) (.slice xa1 0 xc1) (.slice ya1 0 yc1)) := B53.out.go hB
  have hb58 : Hid (Below w.heap.size w v5) := hb54.out.trans (hB.mono hb54.out.size)
  clear hB hb54 B52 B53
  have n59 := Abx.new v5 (.bool false) (.slice xa2 0 xc2) (.slice ya2 0 yc2)
  go_wp2_with fail
  obtain ⟨wo60, hwo60⟩ : ∃ wo60, wo60 = (v5.alloc (.cells #[.bool false, .slice xa2 0 xc2, .slice ya2 0 yc2] 25)) := ⟨_, rfl⟩
  rw [← hwo60]
  have z61 : v5.heap.size + 1 ≤ wo60.heap.size := by rw [hwo60]; simp only [World.size_alloc]; omega
  have B62 : Hid (Abx wo60 (w.heap.size) (.bool c1) (.slice sa1 sz1.length sc1) (.slice da1 dz1.length dc1)) := by rw [hwo60]; exact (B56.out.al (.cells #[.bool false, .slice xa2 0 xc2, .slice ya2 0 yc2] 25))
  have B63 : Hid (Abx wo60 (v4.heap.size) (.bool false) (.slice xa1 0 xc1) (.slice ya1 0 yc1)) := by rw [hwo60]; exact (B57.out.al (.cells #[.bool false, .slice xa2 0 xc2, .slice ya2 0 yc2] 25))
  have B64 : Hid (Abx wo60 (v5.heap.size) (.bool false) (.slice xa2 0 xc2) (.slice ya2 0 yc2)) := by rw [hwo60]; exact n59
  have hb65 : Hid (Below w.heap.size w wo60) := by rw [hwo60]; exact (hb58.out.alloc (by omega) (.cells #[.bool false, .slice xa2 0 xc2, .slice ya2 0 yc2] 25))
  have zwo60 : w.heap.size ≤ wo60.heap.size := hb65.out.size
  clear hwo60 n59 hb58 B56 B57
  go_ret
  exact ⟨rfl, hb65.out⟩
set_option maxRecDepth 100000 in
set_option maxHeartbeats 8000000 in
theorem axes_no (HRd : CRd) (f i j : Int) (hf : In64 f) (hi : In64 i) (hj : In64 j) (c1 : Bool) (sa1 : Option Addr) (sc1 : Nat) (sz1 : List Int) (da1 : Option Addr) (dc1 : Nat) (dz1 : List Int) (w : World) (hg : HasErr w) (w8 : IsArrD w sa1 sz1 sc1 da1 dz1 dc1) (F2 : Hid (Mon f)) (hi0 : ¬ i < 0) (hij : ¬ j ≤ i) (G1 : Hid (rdE f j c1 sz1 dz1 ≠ 0)) (G2 : Hid (rdE f i c1 sz1 dz1 = 0)) :
    Calls Tryd.prog 5 #[.int .i64 f, .int .i64 i, .int .i64 j, .agg #[.bool c1, .slice sa1 sz1.length sc1, .slice da1 dz1.length dc1]] w fun e w' => e = .returned (.bool true) ∧ Below w.heap.size w w' := by
  obtain ⟨E1, hE1⟩ : ∃ E, E = rdE f j c1 sz1 dz1 := ⟨_, rfl⟩
  have HE1 : Hid (rdE f j c1 sz1 dz1 = E1 ∧ E1 ≠ 0) := ⟨hE1.symm, by rw [hE1]; exact G1.out⟩
  clear hE1
  obtain ⟨S2, hS2⟩ : ∃ S, S = xout i.toNat sz1 := ⟨_, rfl⟩
  obtain ⟨D2, hD2⟩ : ∃ D, D = rdD f sz1 dz1 i.toNat := ⟨_, rfl⟩
  have HR2 : Hid (rdE f i c1 sz1 dz1 = 0 ∧ xout i.toNat sz1 = S2 ∧ rdD f sz1 dz1 i.toNat = D2) := ⟨G2.out, hS2.symm, hD2.symm⟩
  clear hS2 hD2
  obtain ⟨x11, x12, x3, x4, s64, T⟩ := w8
  have HI1 : Hid (IsC w.heap.size w sa1 sz1 sc1 ∧ IsC w.heap.size w da1 dz1 dc1 ∧ (∀ j, In64 (nth sz1 j)) ∧ ∀ j, In64 (nth dz1 j)) := ⟨x3, x4, s64, T⟩
  clear x3 x4 T s64
  have HG : Hid (HasErr w) := hg
  clear hg
  have n1 := Abx.new w (.bool c1) (.slice sa1 sz1.length sc1) (.slice da1 dz1.length dc1)
  have n2 := lit_mid (w.alloc (.cells #[.bool c1, .slice sa1 sz1.length sc1, .slice da1 dz1.length dc1] 25)) 3 [2, 2] 2 rfl
  simp only [World.size_alloc, List.map_cons, List.map_nil] at n2
  have n3 := lit_mid ((w.alloc (.cells #[.bool c1, .slice sa1 sz1.length sc1, .slice da1 dz1.length dc1] 25)).alloc (.cells #[.int .i64 2, .int .i64 2] 3)) 3 [1, 2, 3, 4] 4 rfl
  simp only [World.size_alloc, List.map_cons, List.map_nil] at n3
  go_enter Tryd.func5, Tryd.ntmps5
  go_wp2_with fail
  obtain ⟨wo4, hwo4⟩ : ∃ wo4, wo4 = (((w.alloc (.cells #[.bool c1, .slice sa1 sz1.length sc1, .slice da1 dz1.length dc1] 25)).alloc (.cells #[.int .i64 2, .int .i64 2] 3)).alloc (.cells #[.int .i64 1, .int .i64 2, .int .i64 3, .int .i64 4] 3)) := ⟨_, rfl⟩
  rw [← hwo4]
  have z5 : w.heap.size + 1 + 1 + 1 ≤ wo4.heap.size := by rw [hwo4]; simp only [World.size_alloc]; omega
  have B6 : Hid (Abx wo4 (w.heap.size) (.bool c1) (.slice sa1 sz1.length sc1) (.slice da1 dz1.length dc1)) := by rw [hwo4]; exact ((n1.al (.cells #[.int .i64 2, .int .i64 2] 3)).al (.cells #[.int .i64 1, .int .i64 2, .int .i64 3, .int .i64 4] 3))
  have L7 : Hid (MidC (w.heap.size + 1) (w.heap.size + 1 + 1) wo4 (some ⟨w.heap.size + 1, 0, none⟩) ([2, 2]) (2)) := by rw [hwo4]; exact (n2.al (by simp only [World.size_alloc]; omega) (.cells #[.int .i64 1, .int .i64 2, .int .i64 3, .int .i64 4] 3))
  have L8 : Hid (MidC (w.heap.size + 1 + 1) (w.heap.size + 1 + 1 + 1) wo4 (some ⟨w.heap.size + 1 + 1, 0, none⟩) ([1, 2, 3, 4]) (4)) := by rw [hwo4]; exact n3
  have hb9 : Hid (Below w.heap.size w wo4) := by rw [hwo4]; exact ((((Below.refl w.heap.size w).alloc (by omega) (.cells #[.bool c1, .slice sa1 sz1.length sc1, .slice da1 dz1.length dc1] 25)).alloc (by simp only [World.size_alloc]; omega) (.cells #[.int .i64 2, .int .i64 2] 3)).alloc (by simp only [World.size_alloc]; omega) (.cells #[.int .i64 1, .int .i64 2, .int .i64 3, .int .i64 4] 3))
  have zwo4 : w.heap.size ≤ wo4.heap.size := hb9.out.size
  clear hwo4 n1 n2 n3
  refine (rdw_ok 1 0 false (some ⟨w.heap.size + 1, 0, none⟩) 2 [2, 2] 2 rfl (some ⟨w.heap.size + 1 + 1, 0, none⟩) 4 [1, 2, 3, 4] 4 rfl _ (by unfold In64; decide) (by unfold In64; decide) (by decide) (by decide) (L7.out.is (by omega)) (L8.out.is (by omega)).1 (lit12 (by decide)) [2] [4, 6] HRd (by show rdE 1 0 false [2, 2] [1, 2, 3, 4] = 0 ∧ xout (0 : Int).toNat [2, 2] = [2] ∧ rdD 1 [2, 2] [1, 2, 3, 4] (0 : Int).toNat = [4, 6]; decide +kernel)).mono ?_
  rintro e v1 ⟨f1, g1, f2, g2, rfl, hX0, hY0, hB⟩
  have z10 : wo4.heap.size ≤ v1.heap.size := hB.size
  have B11 : Hid (Abx v1 (w.heap.size) (.bool c1) (.slice sa1 sz1.length sc1) (.slice da1 dz1.length dc1)) := B6.out.go hB
  have L12 : Hid (MidC (w.heap.size + 1) (w.heap.size + 1 + 1) v1 (some ⟨w.heap.size + 1, 0, none⟩) ([2, 2]) (2)) := L7.out.go (by omega) hB
  have L13 : Hid (MidC (w.heap.size + 1 + 1) (w.heap.size + 1 + 1 + 1) v1 (some ⟨w.heap.size + 1 + 1, 0, none⟩) ([1, 2, 3, 4]) (4)) := L8.out.go (by omega) hB
  have hb14 : Hid (Below w.heap.size w v1) := hb9.out.trans (hB.mono hb9.out.size)
  have L15 : Hid (MidC (wo4.heap.size) (v1.heap.size) v1 (f1) ([2]) (g1)) := hX0.midc
  have L16 : Hid (MidC (wo4.heap.size) (v1.heap.size) v1 (f2) ([4, 6]) (g2)) := hY0.midc
  clear hB hb9 B6 L7 L8 hX0 hY0
  clear L12 L13
  have n17 := Abx.new v1 (.bool false) (.slice f1 1 g1) (.slice f2 2 g2)
  have l18 := (n17).c0
  have l19 := (n17).c1
  have l20 := (n17).c2
  have n21 := lit_mid (v1.alloc (.cells #[.bool false, .slice f1 1 g1, .slice f2 2 g2] 25)) 3 [4, 6] 2 rfl
  simp only [World.size_alloc, List.map_cons, List.map_nil] at n21
  go_wp2_with fail
  obtain ⟨wo22, hwo22⟩ : ∃ wo22, wo22 = ((v1.alloc (.cells #[.bool false, .slice f1 1 g1, .slice f2 2 g2] 25)).alloc (.cells #[.int .i64 4, .int .i64 6] 3)) := ⟨_, rfl⟩
  rw [← hwo22]
  have z23 : v1.heap.size + 1 + 1 ≤ wo22.heap.size := by rw [hwo22]; simp only [World.size_alloc]; omega
  have B24 : Hid (Abx wo22 (w.heap.size) (.bool c1) (.slice sa1 sz1.length sc1) (.slice da1 dz1.length dc1)) := by rw [hwo22]; exact ((B11.out.al (.cells #[.bool false, .slice f1 1 g1, .slice f2 2 g2] 25)).al (.cells #[.int .i64 4, .int .i64 6] 3))
  have B25 : Hid (Abx wo22 (v1.heap.size) (.bool false) (.slice f1 1 g1) (.slice f2 2 g2)) := by rw [hwo22]; exact (n17.al (.cells #[.int .i64 4, .int .i64 6] 3))
  have L26 : Hid (MidC (wo4.heap.size) (v1.heap.size) wo22 (f1) ([2]) (g1)) := by rw [hwo22]; exact ((L15.out.al (by omega) (.cells #[.bool false, .slice f1 1 g1, .slice f2 2 g2] 25)).al (by simp only [World.size_alloc]; omega) (.cells #[.int .i64 4, .int .i64 6] 3))
  have L27 : Hid (MidC (wo4.heap.size) (v1.heap.size) wo22 (f2) ([4, 6]) (g2)) := by rw [hwo22]; exact ((L16.out.al (by omega) (.cells #[.bool false, .slice f1 1 g1, .slice f2 2 g2] 25)).al (by simp only [World.size_alloc]; omega) (.cells #[.int .i64 4, .int .i64 6] 3))
  have L28 : Hid (MidC (v1.heap.size + 1) (v1.heap.size + 1 + 1) wo22 (some ⟨v1.heap.size + 1, 0, none⟩) ([4, 6]) (2)) := by rw [hwo22]; exact n21
  have hb29 : Hid (Below w.heap.size w wo22) := by rw [hwo22]; exact ((hb14.out.alloc (by omega) (.cells #[.bool false, .slice f1 1 g1, .slice f2 2 g2] 25)).alloc (by simp only [World.size_alloc]; omega) (.cells #[.int .i64 4, .int .i64 6] 3))
  have zwo22 : w.heap.size ≤ wo22.heap.size := hb29.out.size
  clear hwo22 n17 l18 l19 l20 n21 hb14 B11 L15 L16
  refine (ints_any f2 g2 [4, 6] (some ⟨v1.heap.size + 1, 0, none⟩) 2 [4, 6] (by simp) _ _ (L27.out.is (by omega)).1 (L28.out.is (by omega)).1).mono ?_
  rintro e v2 ⟨rfl, hB⟩
  have z30 : wo22.heap.size ≤ v2.heap.size := hB.size
  have B31 : Hid (Abx v2 (w.heap.size) (.bool c1) (.slice sa1 sz1.length sc1) (.slice da1 dz1.length dc1)) := B24.out.go hB
  have B32 : Hid (Abx v2 (v1.heap.size) (.bool false) (.slice f1 1 g1) (.slice f2 2 g2)) := B25.out.go hB
  have L33 : Hid (MidC (wo4.heap.size) (v1.heap.size) v2 (f1) ([2]) (g1)) := L26.out.go (by omega) hB
  have L34 : Hid (MidC (wo4.heap.size) (v1.heap.size) v2 (f2) ([4, 6]) (g2)) := L27.out.go (by omega) hB
  have L35 : Hid (MidC (v1.heap.size + 1) (v1.heap.size + 1 + 1) v2 (some ⟨v1.heap.size + 1, 0, none⟩) ([4, 6]) (2)) := L28.out.go (by omega) hB
  have hb36 : Hid (Below w.heap.size w v2) := hb29.out.trans (hB.mono hb29.out.size)
  clear hB hb29 B24 B25 L26 L27 L28
  rw [eqB_true rfl]
  clear L33 L34 L35 B32
  go_wp2_with fail
  refine (monoid_yes f F2.out _).mono ?_
  rintro e v3 ⟨rfl, hB⟩
  have z37 : v2.heap.size ≤ v3.heap.size := hB.size
  have B38 : Hid (Abx v3 (w.heap.size) (.bool c1) (.slice sa1 sz1.length sc1) (.slice da1 dz1.length dc1)) := B31.out.go hB
  have hb39 : Hid (Below w.heap.size w v3) := hb36.out.trans (hB.mono hb36.out.size)
  clear hB hb36 B31
  have l40 := (B38.out).c0
  have l41 := (B38.out).c1
  have l42 := (B38.out).c2
  go_wp2_with fail
  clear l40 l41 l42
  refine (rdw_no f j c1 sa1 sc1 sz1 sz1.length rfl da1 dc1 dz1 dz1.length rfl _ hf hj x11 x12 ((HI1.out.1.below hb39.out).mono hb39.out.size) ((HI1.out.2.1.1.below hb39.out).mono hb39.out.size) HI1.out.2.2.2 HRd E1 HE1.out).mono ?_
  rintro e v4 ⟨xa1, xc1, ya1, yc1, rfl, hB⟩
  have z43 : v3.heap.size ≤ v4.heap.size := hB.size
  have B44 : Hid (Abx v4 (w.heap.size) (.bool c1) (.slice sa1 sz1.length sc1) (.slice da1 dz1.length dc1)) := B38.out.go hB
  have hb45 : Hid (Below w.heap.size w v4) := hb39.out.trans (hB.mono hb39.out.size)
  clear hB hb39 B38
  have n46 := Abx.new v4 (.bool false) (.slice xa1 0 xc1) (.slice ya1 0 yc1)
  have l47 := ((B44.out.al (.cells #[.bool false, .slice xa1 0 xc1, .slice ya1 0 yc1] 25))).c0
  have l48 := ((B44.out.al (.cells #[.bool false, .slice xa1 0 xc1, .slice ya1 0 yc1] 25))).c1
  have l49 := ((B44.out.al (.cells #[.bool false, .slice xa1 0 xc1, .slice ya1 0 yc1] 25))).c2
  go_wp2_with fail
  obtain ⟨wo50, hwo50⟩ : ∃ wo50, wo50 = (v4.alloc (.cells #[.bool false, .slice xa1 0 xc1, .slice ya1 0 yc1] 25)) := ⟨_, rfl⟩
  rw [← hwo50]
  have z51 : v4.heap.size + 1 ≤ wo50.heap.size := by rw [hwo50]; simp only [World.size_alloc]; omega
  have B52 : Hid (Abx wo50 (w.heap.size) (.bool c1) (.slice sa1 sz1.length sc1) (.slice da1 dz1.length dc1)) := by rw [hwo50]; exact (B44.out.al (.cells #[.bool false, .slice xa1 0 xc1, .slice ya1 0 yc1] 25))
  have B53 : Hid (Abx wo50 (v4.heap.size) (.bool false) (.slice xa1 0 xc1) (.slice ya1 0 yc1)) := by rw [hwo50]; exact n46
  have hb54 : Hid (Below w.heap.size w wo50) := by rw [hwo50]; exact (hb45.out.alloc (by omega) (.cells #[.bool false, .slice xa1 0 xc1, .slice ya1 0 yc1] 25))
  have zwo50 : w.heap.size ≤ wo50.heap.size := hb54.out.size
  clear hwo50 n46 l47 l48 l49 hb45 B44
  refine (rdw_ok f i c1 sa1 sc1 sz1 sz1.length rfl da1 dc1 dz1 dz1.length rfl _ hf hi x11 x12 ((HI1.out.1.below hb54.out).mono hb54.out.size) ((HI1.out.2.1.1.below hb54.out).mono hb54.out.size) HI1.out.2.2.2 S2 D2 HRd HR2.out).mono ?_
  rintro e v5 ⟨xa2, xc2, ya2, yc2, rfl, hX2, hY2, hB⟩
  have z55 : wo50.heap.size ≤ v5.heap.size := hB.size
  have B56 : Hid (Abx v5 (w.heap.size) (.bool c1) (.slice sa1 sz1.length sc1) (.slice da1 dz1.length dc1)) := B52.out.go hB
  have B57 : Hid (Abx v5 (v4.heap.size) (.bool false) (.slice xa1 0 xc1) (.slice ya1 0 yc1)) := B53.out.go hB
  have hb58 : Hid (Below w.heap.size w v5) := hb54.out.trans (hB.mono hb54.out.size)
  have L59 : Hid (MidC (wo50.heap.size) (v5.heap.size) v5 (xa2) (S2) (xc2)) := hX2.midc
  have L60 : Hid (MidC (wo50.heap.size) (v5.heap.size) v5 (ya2) (D2) (yc2)) := hY2.midc
  clear hB hb54 B52 B53 hX2 hY2
  have n61 := Abx.new v5 (.bool false) (.slice xa2 S2.length xc2) (.slice ya2 D2.length yc2)
  go_wp2_with fail
  obtain ⟨wo62, hwo62⟩ : ∃ wo62, wo62 = (v5.alloc (.cells #[.bool false, .slice xa2 S2.length xc2, .slice ya2 D2.length yc2] 25)) := ⟨_, rfl⟩
  rw [← hwo62]
  have z63 : v5.heap.size + 1 ≤ wo62.heap.size := by rw [hwo62]; simp only [World.size_alloc]; omega
  have B64 : Hid (Abx wo62 (w.heap.size) (.bool c1) (.slice sa1 sz1.length sc1) (.slice da1 dz1.length dc1)) := by rw [hwo62]; exact (B56.out.al (.cells #[.bool false, .slice xa2 S2.length xc2, .slice ya2 D2.length yc2] 25))
  have B65 : Hid (Abx wo62 (v4.heap.size) (.bool false) (.slice xa1 0 xc1) (.slice ya1 0 yc1)) := by rw [hwo62]; exact (B57.out.al (.cells #[.bool false, .slice xa2 S2.length xc2, .slice ya2 D2.length yc2] 25))
  have B66 : Hid (Abx wo62 (v5.heap.size) (.bool false) (.slice xa2 S2.length xc2) (.slice ya2 D2.length yc2)) := by rw [hwo62]; exact n61
  have L67 : Hid (MidC (wo50.heap.size) (v5.heap.size) wo62 (xa2) (S2) (xc2)) := by rw [hwo62]; exact (L59.out.al (by omega) (.cells #[.bool false, .slice xa2 S2.length xc2, .slice ya2 D2.length yc2] 25))
  have L68 : Hid (MidC (wo50.heap.size) (v5.heap.size) wo62 (ya2) (D2) (yc2)) := by rw [hwo62]; exact (L60.out.al (by omega) (.cells #[.bool false, .slice xa2 S2.length xc2, .slice ya2 D2.length yc2] 25))
  have hb69 : Hid (Below w.heap.size w wo62) := by rw [hwo62]; exact (hb58.out.alloc (by omega) (.cells #[.bool false, .slice xa2 S2.length xc2, .slice ya2 D2.length yc2] 25))
  have zwo62 : w.heap.size ≤ wo62.heap.size := hb69.out.size
  clear hwo62 n61 hb58 B56 B57 L59 L60
  go_ret
  exact ⟨rfl, hb69.out⟩
set_option maxRecDepth 100000 in
set_option maxHeartbeats 8000000 in
theorem axes_on (HRd : CRd) (f i j : Int) (hf : In64 f) (hi : In64 i) (hj : In64 j) (c1 : Bool) (sa1 : Option Addr) (sc1 : Nat) (sz1 : List Int) (da1 : Option Addr) (dc1 : Nat) (dz1 : List Int) (w : World) (hg : HasErr w) (w8 : IsArrD w sa1 sz1 sc1 da1 dz1 dc1) (F2 : Hid (Mon f)) (hi0 : ¬ i < 0) (hij : ¬ j ≤ i) (G1 : Hid (rdE f j c1 sz1 dz1 = 0)) (G2 : Hid (rdE f i c1 sz1 dz1 ≠ 0)) :
    Calls Tryd.prog 5 #[.int .i64 f, .int .i64 i, .int .i64 j, .agg #[.bool c1, .slice sa1 sz1.length sc1, .slice da1 dz1.length dc1]] w fun e w' => e = .returned (.bool true) ∧ Below w.heap.size w w' := by
  obtain ⟨S1, hS1⟩ : ∃ S, S = xout j.toNat sz1 := ⟨_, rfl⟩
  obtain ⟨D1, hD1⟩ : ∃ D, D = rdD f sz1 dz1 j.toNat := ⟨_, rfl⟩
  have HR1 : Hid (rdE f j c1 sz1 dz1 = 0 ∧ xout j.toNat sz1 = S1 ∧ rdD f sz1 dz1 j.toNat = D1) := ⟨G1.out, hS1.symm, hD1.symm⟩
  clear hS1 hD1
  obtain ⟨E2, hE2⟩ : ∃ E, E = rdE f i c1 sz1 dz1 := ⟨_, rfl⟩
  have HE2 : Hid (rdE f i c1 sz1 dz1 = E2 ∧ E2 ≠ 0) := ⟨hE2.symm, by rw [hE2]; exact G2.out⟩
  clear hE2
  obtain ⟨x11, x12, x3, x4, s64, T⟩ := w8
  have HI1 : Hid (IsC w.heap.size w sa1 sz1 sc1 ∧ IsC w.heap.size w da1 dz1 dc1 ∧ (∀ j, In64 (nth sz1 j)) ∧ ∀ j, In64 (nth dz1 j)) := ⟨x3, x4, s64, T⟩
  clear x3 x4 T s64
  have HG : Hid (HasErr w) := hg
  clear hg
  have n1 := Abx.new w (.bool c1) (.slice sa1 sz1.length sc1) (.slice da1 dz1.length dc1)
  have n2 := lit_mid (w.alloc (.cells #[.bool c1, .slice sa1 sz1.length sc1, .slice da1 dz1.length dc1] 25)) 3 [2, 2] 2 rfl
  simp only [World.size_alloc, List.map_cons, List.map_nil] at n2
  have n3 := lit_mid ((w.alloc (.cells #[.bool c1, .slice sa1 sz1.length sc1, .slice da1 dz1.length dc1] 25)).alloc (.cells #[.int .i64 2, .int .i64 2] 3)) 3 [1, 2, 3, 4] 4 rfl
  simp only [World.size_alloc, List.map_cons, List.map_nil] at n3
  go_enter Tryd.func5, Tryd.ntmps5
  go_wp2_with fail
  obtain ⟨wo4, hwo4⟩ : ∃ wo4, wo4 = (((w.alloc (.cells #[.bool c1, .slice sa1 sz1.length sc1, .slice da1 dz1.length dc1] 25)).alloc (.cells #[.int .i64 2, .int .i64 2] 3)).alloc (.cells #[.int .i64 1, .int .i64 2, .int .i64 3, .int .i64 4] 3)) := ⟨_, rfl⟩
  rw [← hwo4]
  have z5 : w.heap.size + 1 + 1 + 1 ≤ wo4.heap.size := by rw [hwo4]; simp only [World.size_alloc]; omega
  have B6 : Hid (Abx wo4 (w.heap.size) (.bool c1) (.slice sa1 sz1.length sc1) (.slice da1 dz1.length dc1)) := by rw [hwo4]; exact ((n1.al (.cells #[.int .i64 2, .int .i64 2] 3)).al (.cells #[.int .i64 1, .int .i64 2, .int .i64 3, .int .i64 4] 3))
  have L7 : Hid (MidC (w.heap.size + 1) (w.heap.size + 1 + 1) wo4 (some ⟨w.heap.size + 1, 0, none⟩) ([2, 2]) (2)) := by rw [hwo4]; exact (n2.al (by simp only [World.size_alloc]; omega) (.cells #[.int .i64 1, .int .i64 2, .int .i64 3, .int .i64 4] 3))
  have L8 : Hid (MidC (w.heap.size + 1 + 1) (w.heap.size + 1 + 1 + 1) wo4 (some ⟨w.heap.size + 1 + 1, 0, none⟩) ([1, 2, 3, 4]) (4)) := by rw [hwo4]; exact n3
  have hb9 : Hid (Below w.heap.size w wo4) := by rw [hwo4]; exact ((((Below.refl w.heap.size w).alloc (by omega) (.cells #[.bool c1, .slice sa1 sz1.length sc1, .slice da1 dz1.length dc1] 25)).alloc (by simp only [World.size_alloc]; omega) (.cells #[.int .i64 2, .int .i64 2] 3)).alloc (by simp only [World.size_alloc]; omega) (.cells #[.int .i64 1, .int .i64 2, .int .i64 3, .int .i64 4] 3))
  have zwo4 : w.heap.size ≤ wo4.heap.size := hb9.out.size
  clear hwo4 n1 n2 n3
  refine (rdw_ok 1 0 false (some ⟨w.heap.size + 1, 0, none⟩) 2 [2, 2] 2 rfl (some ⟨w.heap.size + 1 + 1, 0, none⟩) 4 [1, 2, 3, 4] 4 rfl _ (by unfold In64; decide) (by unfold In64; decide) (by decide) (by decide) (L7.out.is (by omega)) (L8.out.is (by omega)).1 (lit12 (by decide)) [2] [4, 6] HRd (by show rdE 1 0 false [2, 2] [1, 2, 3, 4] = 0 ∧ xout (0 : Int).toNat [2, 2] = [2] ∧ rdD 1 [2, 2] [1, 2, 3, 4] (0 : Int).toNat = [4, 6]; decide +kernel)).mono ?_
  rintro e v1 ⟨f1, g1, f2, g2, rfl, hX0, hY0, hB⟩
  have z10 : wo4.heap.size ≤ v1.heap.size := hB.size
  have B11 : Hid (Abx v1 (w.heap.size) (.bool c1) (.slice sa1 sz1.length sc1) (.slice da1 dz1.length dc1)) := B6.out.go hB
  have L12 : Hid (MidC (w.heap.size + 1) (w.heap.size + 1 + 1) v1 (some ⟨w.heap.size + 1, 0, none⟩) ([2, 2]) (2)) := L7.out.go (by omega) hB
  have L13 : Hid (MidC (w.heap.size + 1 + 1) (w.heap.size + 1 + 1 + 1) v1 (some ⟨w.heap.size + 1 + 1, 0, none⟩) ([1, 2, 3, 4]) (4)) := L8.out.go (by omega) hB
  have hb14 : Hid (Below w.heap.size w v1) := hb9.out.trans (hB.mono hb9.out.size)
  have L15 : Hid (MidC (wo4.heap.size) (v1.heap.size) v1 (f1) ([2]) (g1)) := hX0.midc
  have L16 : Hid (MidC (wo4.heap.size) (v1.heap.size) v1 (f2) ([4, 6]) (g2)) := hY0.midc
  clear hB hb9 B6 L7 L8 hX0 hY0
  clear L12 L13
  have n17 := Abx.new v1 (.bool false) (.slice f1 1 g1) (.slice f2 2 g2)
  have l18 := (n17).c0
  have l19 := (n17).c1
  have l20 := (n17).c2
  have n21 := lit_mid (v1.alloc (.cells #[.bool false, .slice f1 1 g1, .slice f2 2 g2] 25)) 3 [4, 6] 2 rfl
  simp only [World.size_alloc, List.map_cons, List.map_nil] at n21
  go_wp2_with fail
  obtain ⟨wo22, hwo22⟩ : ∃ wo22, wo22 = ((v1.alloc (.cells #[.bool false, .slice f1 1 g1, .slice f2 2 g2] 25)).alloc (.cells #[.int .i64 4, .int .i64 6] 3)) := ⟨_, rfl⟩
  rw [← hwo22]
  have z23 : v1.heap.size + 1 + 1 ≤ wo22.heap.size := by rw [hwo22]; simp only [World.size_alloc]; omega
  have B24 : Hid (Abx wo22 (w.heap.size) (.bool c1) (.slice sa1 sz1.length sc1) (.slice da1 dz1.length dc1)) := by rw [hwo22]; exact ((B11.out.al (.cells #[.bool false, .slice f1 1 g1, .slice f2 2 g2] 25)).al (.cells #[.int .i64 4, .int .i64 6] 3))
  have B25 : Hid (Abx wo22 (v1.heap.size) (.bool false) (.slice f1 1 g1) (.slice f2 2 g2)) := by rw [hwo22]; exact (n17.al (.cells #[.int .i64 4, .int .i64 6] 3))
  have L26 : Hid (MidC (wo4.heap.size) (v1.heap.size) wo22 (f1) ([2]) (g1)) := by rw [hwo22]; exact ((L15.out.al (by omega) (.cells #[.bool false, .slice f1 1 g1, .slice f2 2 g2] 25)).al (by simp only [World.size_alloc]; omega) (.cells #[.int .i64 4, .int .i64 6] 3))
  have L27 : Hid (MidC (wo4.heap.size) (v1.heap.size) wo22 (f2) ([4, 6]) (g2)) := by rw [hwo22]; exact ((L16.out.al (by omega) (.cells #[.bool false, .slice f1 1 g1, .slice f2 2 g2] 25)).al (by simp only [World.size_alloc]; omega) (.cells #[.int .i64 4, .int .i64 6] 3))
  have L28 : Hid (MidC (v1.heap.size + 1) (v1.heap.size + 1 + 1) wo22 (some ⟨v1.heap.size + 1, 0, none⟩) ([4, 6]) (2)) := by rw [hwo22]; exact n21
  have hb29 : Hid (Below w.heap.size w wo22) := by rw [hwo22]; exact ((hb14.out.alloc (by omega) (.cells #[.bool false, .slice f1 1 g1, .slice f2 2 g2] 25)).alloc (by simp only [World.size_alloc]; omega) (.cells #[.int .i64 4, .int .i64 6] 3))
  have zwo22 : w.heap.size ≤ wo22.heap.size := hb29.out.size
  clear hwo22 n17 l18 l19 l20 n21 hb14 B11 L15 L16
  refine (ints_any f2 g2 [4, 6] (some ⟨v1.heap.size + 1, 0, none⟩) 2 [4, 6] (by simp) _ _ (L27.out.is (by omega)).1 (L28.out.is (by omega)).1).mono ?_
  rintro e v2 ⟨rfl, hB⟩
  have z30 : wo22.heap.size ≤ v2.heap.size := hB.size
  have B31 : Hid (Abx v2 (w.heap.size) (.bool c1) (.slice sa1 sz1.length sc1) (.slice da1 dz1.length dc1)) := B24.out.go hB
  have B32 : Hid (Abx v2 (v1.heap.size) (.bool false) (.slice f1 1 g1) (.slice f2 2 g2)) := B25.out.go hB
  have L33 : Hid (MidC (wo4.heap.size) (v1.heap.size) v2 (f1) ([2]) (g1)) := L26.out.go (by omega) hB
  have L34 : Hid (MidC (wo4.heap.size) (v1.heap.size) v2 (f2) ([4, 6]) (g2)) := L27.out.go (by omega) hB
  have L35 : Hid (MidC (v1.heap.size + 1) (v1.heap.size + 1 + 1) v2 (some ⟨v1.heap.size + 1, 0, none⟩) ([4, 6]) (2)) := L28.out.go (by omega) hB
  have hb36 : Hid (Below w.heap.size w v2) := hb29.out.trans (hB.mono hb29.out.size)
  clear hB hb29 B24 B25 L26 L27 L28
  rw [eqB_true rfl]
  clear L33 L34 L35 B32
  go_wp2_with fail
  refine (monoid_yes f F2.out _).mono ?_
  rintro e v3 ⟨rfl, hB⟩
  have z37 : v2.heap.size ≤ v3.heap.size := hB.size
  have B38 : Hid (Abx v3 (w.heap.size) (.bool c1) (.slice sa1 sz1.length sc1) (.slice da1 dz1.length dc1)) := B31.out.go hB
  have hb39 : Hid (Below w.heap.size w v3) := hb36.out.trans (hB.mono hb36.out.size)
  clear hB hb36 B31
  have l40 := (B38.out).c0
  have l41 := (B38.out).c1
  have l42 := (B38.out).c2
  go_wp2_with fail
  clear l40 l41 l42
  refine (rdw_ok f j c1 sa1 sc1 sz1 sz1.length rfl da1 dc1 dz1 dz1.length rfl _ hf hj x11 x12 ((HI1.out.1.below hb39.out).mono hb39.out.size) ((HI1.out.2.1.1.below hb39.out).mono hb39.out.size) HI1.out.2.2.2 S1 D1 HRd HR1.out).mono ?_
  rintro e v4 ⟨xa1, xc1, ya1, yc1, rfl, hX1, hY1, hB⟩
  have z43 : v3.heap.size ≤ v4.heap.size := hB.size
  have B44 : Hid (Abx v4 (w.heap.size) (.bool c1) (.slice sa1 sz1.length sc1) (.slice da1 dz1.length dc1)) := B38.out.go hB
  have hb45 : Hid (Below w.heap.size w v4) := hb39.out.trans (hB.mono hb39.out.size)
  have L46 : Hid (MidC (v3.heap.size) (v4.heap.size) v4 (xa1) (S1) (xc1)) := hX1.midc
  have L47 : Hid (MidC (v3.heap.size) (v4.heap.size) v4 (ya1) (D1) (yc1)) := hY1.midc
  clear hB hb39 B38 hX1 hY1
  have n48 := Abx.new v4 (.bool false) (.slice xa1 S1.length xc1) (.slice ya1 D1.length yc1)
  have l49 := ((B44.out.al (.cells #[.bool false, .slice xa1 S1.length xc1, .slice ya1 D1.length yc1] 25))).c0
  have l50 := ((B44.out.al (.cells #[.bool false, .slice xa1 S1.length xc1, .slice ya1 D1.length yc1] 25))).c1
  have l51 := ((B44.out.al (.cells #[.bool false, .slice xa1 S1.length xc1, .slice ya1 D1.length yc1] 25))).c2
  go_wp2_with fail
  obtain ⟨wo52, hwo52⟩ : ∃ wo52, wo52 = (v4.alloc (.cells #[.bool false, .slice xa1 S1.length xc1, .slice ya1 D1.length yc1] 25)) := ⟨_, rfl⟩
  rw [← hwo52]
  have z53 : v4.heap.size + 1 ≤ wo52.heap.size := by rw [hwo52]; simp only [World.size_alloc]; omega
  have B54 : Hid (Abx wo52 (w.heap.size) (.bool c1) (.slice sa1 sz1.length sc1) (.slice da1 dz1.length dc1)) := by rw [hwo52]; exact (B44.out.al (.cells #[.bool false, .slice xa1 S1.length xc1, .slice ya1 D1.length yc1] 25))
  have B55 : Hid (Abx wo52 (v4.heap.size) (.bool false) (.slice xa1 S1.length xc1) (.slice ya1 D1.length yc1)) := by rw [hwo52]; exact n48
  have L56 : Hid (MidC (v3.heap.size) (v4.heap.size) wo52 (xa1) (S1) (xc1)) := by rw [hwo52]; exact (L46.out.al (by omega) (.cells #[.bool false, .slice xa1 S1.length xc1, .slice ya1 D1.length yc1] 25))
  have L57 : Hid (MidC (v3.heap.size) (v4.heap.size) wo52 (ya1) (D1) (yc1)) := by rw [hwo52]; exact (L47.out.al (by omega) (.cells #[.bool false, .slice xa1 S1.length xc1, .slice ya1 D1.length yc1] 25))
  have hb58 : Hid (Below w.heap.size w wo52) := by rw [hwo52]; exact (hb45.out.alloc (by omega) (.cells #[.bool false, .slice xa1 S1.length xc1, .slice ya1 D1.length yc1] 25))
  have zwo52 : w.heap.size ≤ wo52.heap.size := hb58.out.size
  clear hwo52 n48 l49 l50 l51 hb45 B44 L46 L47
  refine (rdw_no f i c1 sa1 sc1 sz1 sz1.length rfl da1 dc1 dz1 dz1.length rfl _ hf hi x11 x12 ((HI1.out.1.below hb58.out).mono hb58.out.size) ((HI1.out.2.1.1.below hb58.out).mono hb58.out.size) HI1.out.2.2.2 HRd E2 HE2.out).mono ?_
  rintro e v5 ⟨xa2, xc2, ya2, yc2, rfl, hB⟩
  have z59 : wo52.heap.size ≤ v5.heap.size := hB.size
  have B60 : Hid (Abx v5 (w.heap.size) (.bool c1) (.slice sa1 sz1.length sc1) (.slice da1 dz1.length dc1)) := B54.out.go hB
  have B61 : Hid (Abx v5 (v4.heap.size) (.bool false) (.slice xa1 S1.length xc1) (.slice ya1 D1.length yc1)) := B55.out.go hB
  have L62 : Hid (MidC (v3.heap.size) (v4.heap.size) v5 (xa1) (S1) (xc1)) := L56.out.go (by omega) hB
  have L63 : Hid (MidC (v3.heap.size) (v4.heap.size) v5 (ya1) (D1) (yc1)) := L57.out.go (by omega) hB
  have hb64 : Hid (Below w.heap.size w v5) := hb58.out.trans (hB.mono hb58.out.size)
  clear hB hb58 B54 B55 L56 L57
  have n65 := Abx.new v5 (.bool false) (.slice xa2 0 xc2) (.slice ya2 0 yc2)
  go_wp2_with fail
  obtain ⟨wo66, hwo66⟩ : ∃ wo66, wo66 = (v5.alloc (.cells #[.bool false, .slice xa2 0 xc2, .slice ya2 0 yc2] 25)) := ⟨_, rfl⟩
  rw [← hwo66]
  have z67 : v5.heap.size + 1 ≤ wo66.heap.size := by rw [hwo66]; simp only [World.size_alloc]; omega
  have B68 : Hid (Abx wo66 (w.heap.size) (.bool c1) (.slice sa1 sz1.length sc1) (.slice da1 dz1.length dc1)) := by rw [hwo66]; exact (B60.out.al (.cells #[.bool false, .slice xa2 0 xc2, .slice ya2 0 yc2] 25))
  have B69 : Hid (Abx wo66 (v4.heap.size) (.bool false) (.slice xa1 S1.length xc1) (.slice ya1 D1.length yc1)) := by rw [hwo66]; exact (B61.out.al (.cells #[.bool false, .slice xa2 0 xc2, .slice ya2 0 yc2] 25))
  have B70 : Hid (Abx wo66 (v5.heap.size) (.bool false) (.slice xa2 0 xc2) (.slice ya2 0 yc2)) := by rw [hwo66]; exact n65
  have L71 : Hid (MidC (v3.heap.size) (v4.heap.size) wo66 (xa1) (S1) (xc1)) := by rw [hwo66]; exact (L62.out.al (by omega) (.cells #[.bool false, .slice xa2 0 xc2, .slice ya2 0 yc2] 25))
  have L72 : Hid (MidC (v3.heap.size) (v4.heap.size) wo66 (ya1) (D1) (yc1)) := by rw [hwo66]; exact (L63.out.al (by omega) (.cells #[.bool false, .slice xa2 0 xc2, .slice ya2 0 yc2] 25))
  have hb73 : Hid (Below w.heap.size w wo66) := by rw [hwo66]; exact (hb64.out.alloc (by omega) (.cells #[.bool false, .slice xa2 0 xc2, .slice ya2 0 yc2] 25))
  have zwo66 : w.heap.size ≤ wo66.heap.size := hb73.out.size
  clear hwo66 n65 hb64 B60 B61 L62 L63
  go_ret
  exact ⟨rfl, hb73.out⟩
set_option maxRecDepth 100000 in
set_option maxHeartbeats 8000000 in
theorem axes_full (HRd : CRd) (f i j : Int) (hf : In64 f) (hi : In64 i) (hj : In64 j) (c1 : Bool) (sa1 : Option Addr) (sc1 : Nat) (sz1 : List Int) (da1 : Option Addr) (dc1 : Nat) (dz1 : List Int) (w : World) (hg : HasErr w) (w8 : IsArrD w sa1 sz1 sc1 da1 dz1 dc1) (F2 : Hid (Mon f)) (hi0 : ¬ i < 0) (hij : ¬ j ≤ i) (G1 : Hid (rdE f j c1 sz1 dz1 = 0)) (G2 : Hid (rdE f i c1 sz1 dz1 = 0)) (G3 : Hid (errOf (xout i.toNat (xout j.toNat sz1)) ≠ 0)) :
    Calls Tryd.prog 5 #[.int .i64 f, .int .i64 i, .int .i64 j, .agg #[.bool c1, .slice sa1 sz1.length sc1, .slice da1 dz1.length dc1]] w fun e w' => e = .returned (.bool true) ∧ Below w.heap.size w w' := by
  have T1 := w8.2.2.2.2.2
  obtain ⟨S1, hS1⟩ : ∃ S, S = xout j.toNat sz1 := ⟨_, rfl⟩
  obtain ⟨D1, hD1⟩ : ∃ D, D = rdD f sz1 dz1 j.toNat := ⟨_, rfl⟩
  have HR1 : Hid (rdE f j c1 sz1 dz1 = 0 ∧ xout j.toNat sz1 = S1 ∧ rdD f sz1 dz1 j.toNat = D1) := ⟨G1.out, hS1.symm, hD1.symm⟩
  obtain ⟨S2, hS2⟩ : ∃ S, S = xout i.toNat sz1 := ⟨_, rfl⟩
  obtain ⟨D2, hD2⟩ : ∃ D, D = rdD f sz1 dz1 i.toNat := ⟨_, rfl⟩
  have HR2 : Hid (rdE f i c1 sz1 dz1 = 0 ∧ xout i.toNat sz1 = S2 ∧ rdD f sz1 dz1 i.toNat = D2) := ⟨G2.out, hS2.symm, hD2.symm⟩
  obtain ⟨b1, b2, b3, b4, b5, b6⟩ := ax_two F2.out hi0 hij G1.out G2.out T1
  rw [← hS1, ← hD1] at b1
  rw [← hS2, ← hD2] at b2
  have TD : Hid ((∀ j, In64 (nth D1 j)) ∧ ∀ j, In64 (nth D2 j)) := ⟨by rw [hD1]; exact rd_64 (rdE_zero.1 G1.out).2.2.1 T1, by rw [hD2]; exact rd_64 (rdE_zero.1 G2.out).2.2.1 T1⟩
  have l1 : S1.length ≤ 4096 ∧ D1.length ≤ 4096 := by rw [hS1, hD1]; exact ⟨(errS (rdE_zero.1 G1.out).2.2.1).1, by unfold rdD; rw [TA_length]; exact (errS (rdE_zero.1 G1.out).2.2.1).2⟩
  have l2 : S2.length ≤ 4096 ∧ D2.length ≤ 4096 := by rw [hS2, hD2]; exact ⟨(errS (rdE_zero.1 G2.out).2.2.1).1, by unfold rdD; rw [TA_length]; exact (errS (rdE_zero.1 G2.out).2.2.1).2⟩
  have HN3 : Hid (rdE f i false S1 D1 = 7 ∧ (7 : Int) ≠ 0) := ⟨by rw [b1, hS1]; exact b4.resolve_left G3.out, by decide⟩
  have HN4 : Hid (rdE f (j - 1) false S2 D2 = 7 ∧ (7 : Int) ≠ 0) := ⟨by rw [b2]; exact b4.resolve_left G3.out, by decide⟩
  have hj1 : In64 (j - 1) := by unfold In64 at hj ⊢; omega
  have hjb : 0 < j ∧ j ≤ 9223372036854775807 := by unfold In64 at hj; omega
  clear hS1 hD1 hS2 hD2 b1 b2 b3 b4 b5 b6 T1
  obtain ⟨x11, x12, x3, x4, s64, T⟩ := w8
  have HI1 : Hid (IsC w.heap.size w sa1 sz1 sc1 ∧ IsC w.heap.size w da1 dz1 dc1 ∧ (∀ j, In64 (nth sz1 j)) ∧ ∀ j, In64 (nth dz1 j)) := ⟨x3, x4, s64, T⟩
  clear x3 x4 T s64
  have HG : Hid (HasErr w) := hg
  clear hg
  have n1 := Abx.new w (.bool c1) (.slice sa1 sz1.length sc1) (.slice da1 dz1.length dc1)
  have n2 := lit_mid (w.alloc (.cells #[.bool c1, .slice sa1 sz1.length sc1, .slice da1 dz1.length dc1] 25)) 3 [2, 2] 2 rfl
  simp only [World.size_alloc, List.map_cons, List.map_nil] at n2
  have n3 := lit_mid ((w.alloc (.cells #[.bool c1, .slice sa1 sz1.length sc1, .slice da1 dz1.length dc1] 25)).alloc (.cells #[.int .i64 2, .int .i64 2] 3)) 3 [1, 2, 3, 4] 4 rfl
  simp only [World.size_alloc, List.map_cons, List.map_nil] at n3
  go_enter Tryd.func5, Tryd.ntmps5
  go_wp2_with fail
  obtain ⟨wo4, hwo4⟩ : ∃ wo4, wo4 = (((w.alloc (.cells #[.bool c1, .slice sa1 sz1.length sc1, .slice da1 dz1.length dc1] 25)).alloc (.cells #[.int .i64 2, .int .i64 2] 3)).alloc (.cells #[.int .i64 1, .int .i64 2, .int .i64 3, .int .i64 4] 3)) := ⟨_, rfl⟩
  rw [← hwo4]
  have z5 : w.heap.size + 1 + 1 + 1 ≤ wo4.heap.size := by rw [hwo4]; simp only [World.size_alloc]; omega
  have B6 : Hid (Abx wo4 (w.heap.size) (.bool c1) (.slice sa1 sz1.length sc1) (.slice da1 dz1.length dc1)) := by rw [hwo4]; exact ((n1.al (.cells #[.int .i64 2, .int .i64 2] 3)).al (.cells #[.int .i64 1, .int .i64 2, .int .i64 3, .int .i64 4] 3))
  have L7 : Hid (MidC (w.heap.size + 1) (w.heap.size + 1 + 1) wo4 (some ⟨w.heap.size + 1, 0, none⟩) ([2, 2]) (2)) := by rw [hwo4]; exact (n2.al (by simp only [World.size_alloc]; omega) (.cells #[.int .i64 1, .int .i64 2, .int .i64 3, .int .i64 4] 3))
  have L8 : Hid (MidC (w.heap.size + 1 + 1) (w.heap.size + 1 + 1 + 1) wo4 (some ⟨w.heap.size + 1 + 1, 0, none⟩) ([1, 2, 3, 4]) (4)) := by rw [hwo4]; exact n3
  have hb9 : Hid (Below w.heap.size w wo4) := by rw [hwo4]; exact ((((Below.refl w.heap.size w).alloc (by omega) (.cells #[.bool c1, .slice sa1 sz1.length sc1, .slice da1 dz1.length dc1] 25)).alloc (by simp only [World.size_alloc]; omega) (.cells #[.int .i64 2, .int .i64 2] 3)).alloc (by simp only [World.size_alloc]; omega) (.cells #[.int .i64 1, .int .i64 2, .int .i64 3, .int .i64 4] 3))
  have zwo4 : w.heap.size ≤ wo4.heap.size := hb9.out.size
  clear hwo4 n1 n2 n3
  refine (rdw_ok 1 0 false (some ⟨w.heap.size + 1, 0, none⟩) 2 [2, 2] 2 rfl (some ⟨w.heap.size + 1 + 1, 0, none⟩) 4 [1, 2, 3, 4] 4 rfl _ (by unfold In64; decide) (by unfold In64; decide) (by decide) (by decide) (L7.out.is (by omega)) (L8.out.is (by omega)).1 (lit12 (by decide)) [2] [4, 6] HRd (by show rdE 1 0 false [2, 2] [1, 2, 3, 4] = 0 ∧ xout (0 : Int).toNat [2, 2] = [2] ∧ rdD 1 [2, 2] [1, 2, 3, 4] (0 : Int).toNat = [4, 6]; decide +kernel)).mono ?_
  rintro e v1 ⟨f1, g1, f2, g2, rfl, hX0, hY0, hB⟩
  have z10 : wo4.heap.size ≤ v1.heap.size := hB.size
  have B11 : Hid (Abx v1 (w.heap.size) (.bool c1) (.slice sa1 sz1.length sc1) (.slice da1 dz1.length dc1)) := B6.out.go hB
  have L12 : Hid (MidC (w.heap.size + 1) (w.heap.size + 1 + 1) v1 (some ⟨w.heap.size + 1, 0, none⟩) ([2, 2]) (2)) := L7.out.go (by omega) hB
  have L13 : Hid (MidC (w.heap.size + 1 + 1) (w.heap.size + 1 + 1 + 1) v1 (some ⟨w.heap.size + 1 + 1, 0, none⟩) ([1, 2, 3, 4]) (4)) := L8.out.go (by omega) hB
  have hb14 : Hid (Below w.heap.size w v1) := hb9.out.trans (hB.mono hb9.out.size)
  have L15 : Hid (MidC (wo4.heap.size) (v1.heap.size) v1 (f1) ([2]) (g1)) := hX0.midc
  have L16 : Hid (MidC (wo4.heap.size) (v1.heap.size) v1 (f2) ([4, 6]) (g2)) := hY0.midc
  clear hB hb9 B6 L7 L8 hX0 hY0
  clear L12 L13
  have n17 := Abx.new v1 (.bool false) (.slice f1 1 g1) (.slice f2 2 g2)
  have l18 := (n17).c0
  have l19 := (n17).c1
  have l20 := (n17).c2
  have n21 := lit_mid (v1.alloc (.cells #[.bool false, .slice f1 1 g1, .slice f2 2 g2] 25)) 3 [4, 6] 2 rfl
  simp only [World.size_alloc, List.map_cons, List.map_nil] at n21
  go_wp2_with fail
  obtain ⟨wo22, hwo22⟩ : ∃ wo22, wo22 = ((v1.alloc (.cells #[.bool false, .slice f1 1 g1, .slice f2 2 g2] 25)).alloc (.cells #[.int .i64 4, .int .i64 6] 3)) := ⟨_, rfl⟩
  rw [← hwo22]
  have z23 : v1.heap.size + 1 + 1 ≤ wo22.heap.size := by rw [hwo22]; simp only [World.size_alloc]; omega
  have B24 : Hid (Abx wo22 (w.heap.size) (.bool c1) (.slice sa1 sz1.length sc1) (.slice da1 dz1.length dc1)) := by rw [hwo22]; exact ((B11.out.al (.cells #[.bool false, .slice f1 1 g1, .slice f2 2 g2] 25)).al (.cells #[.int .i64 4, .int .i64 6] 3))
  have B25 : Hid (Abx wo22 (v1.heap.size) (.bool false) (.slice f1 1 g1) (.slice f2 2 g2)) := by rw [hwo22]; exact (n17.al (.cells #[.int .i64 4, .int .i64 6] 3))
  have L26 : Hid (MidC (wo4.heap.size) (v1.heap.size) wo22 (f1) ([2]) (g1)) := by rw [hwo22]; exact ((L15.out.al (by omega) (.cells #[.bool false, .slice f1 1 g1, .slice f2 2 g2] 25)).al (by simp only [World.size_alloc]; omega) (.cells #[.int .i64 4, .int .i64 6] 3))
  have L27 : Hid (MidC (wo4.heap.size) (v1.heap.size) wo22 (f2) ([4, 6]) (g2)) := by rw [hwo22]; exact ((L16.out.al (by omega) (.cells #[.bool false, .slice f1 1 g1, .slice f2 2 g2] 25)).al (by simp only [World.size_alloc]; omega) (.cells #[.int .i64 4, .int .i64 6] 3))
  have L28 : Hid (MidC (v1.heap.size + 1) (v1.heap.size + 1 + 1) wo22 (some ⟨v1.heap.size + 1, 0, none⟩) ([4, 6]) (2)) := by rw [hwo22]; exact n21
  have hb29 : Hid (Below w.heap.size w wo22) := by rw [hwo22]; exact ((hb14.out.alloc (by omega) (.cells #[.bool false, .slice f1 1 g1, .slice f2 2 g2] 25)).alloc (by simp only [World.size_alloc]; omega) (.cells #[.int .i64 4, .int .i64 6] 3))
  have zwo22 : w.heap.size ≤ wo22.heap.size := hb29.out.size
  clear hwo22 n17 l18 l19 l20 n21 hb14 B11 L15 L16
  refine (ints_any f2 g2 [4, 6] (some ⟨v1.heap.size + 1, 0, none⟩) 2 [4, 6] (by simp) _ _ (L27.out.is (by omega)).1 (L28.out.is (by omega)).1).mono ?_
  rintro e v2 ⟨rfl, hB⟩
  have z30 : wo22.heap.size ≤ v2.heap.size := hB.size
  have B31 : Hid (Abx v2 (w.heap.size) (.bool c1) (.slice sa1 sz1.length sc1) (.slice da1 dz1.length dc1)) := B24.out.go hB
  have B32 : Hid (Abx v2 (v1.heap.size) (.bool false) (.slice f1 1 g1) (.slice f2 2 g2)) := B25.out.go hB
  have L33 : Hid (MidC (wo4.heap.size) (v1.heap.size) v2 (f1) ([2]) (g1)) := L26.out.go (by omega) hB
  have L34 : Hid (MidC (wo4.heap.size) (v1.heap.size) v2 (f2) ([4, 6]) (g2)) := L27.out.go (by omega) hB
  have L35 : Hid (MidC (v1.heap.size + 1) (v1.heap.size + 1 + 1) v2 (some ⟨v1.heap.size + 1, 0, none⟩) ([4, 6]) (2)) := L28.out.go (by omega) hB
  have hb36 : Hid (Below w.heap.size w v2) := hb29.out.trans (hB.mono hb29.out.size)
  clear hB hb29 B24 B25 L26 L27 L28
  rw [eqB_true rfl]
  clear L33 L34 L35 B32
  go_wp2_with fail
  refine (monoid_yes f F2.out _).mono ?_
  rintro e v3 ⟨rfl, hB⟩
  have z37 : v2.heap.size ≤ v3.heap.size := hB.size
  have B38 : Hid (Abx v3 (w.heap.size) (.bool c1) (.slice sa1 sz1.length sc1) (.slice da1 dz1.length dc1)) := B31.out.go hB
  have hb39 : Hid (Below w.heap.size w v3) := hb36.out.trans (hB.mono hb36.out.size)
  clear hB hb36 B31
  have l40 := (B38.out).c0
  have l41 := (B38.out).c1
  have l42 := (B38.out).c2
  go_wp2_with fail
  clear l40 l41 l42
  refine (rdw_ok f j c1 sa1 sc1 sz1 sz1.length rfl da1 dc1 dz1 dz1.length rfl _ hf hj x11 x12 ((HI1.out.1.below hb39.out).mono hb39.out.size) ((HI1.out.2.1.1.below hb39.out).mono hb39.out.size) HI1.out.2.2.2 S1 D1 HRd HR1.out).mono ?_
  rintro e v4 ⟨xa1, xc1, ya1, yc1, rfl, hX1, hY1, hB⟩
  have z43 : v3.heap.size ≤ v4.heap.size := hB.size
  have B44 : Hid (Abx v4 (w.heap.size) (.bool c1) (.slice sa1 sz1.length sc1) (.slice da1 dz1.length dc1)) := B38.out.go hB
  have hb45 : Hid (Below w.heap.size w v4) := hb39.out.trans (hB.mono hb39.out.size)
  have L46 : Hid (MidC (v3.heap.size) (v4.heap.size) v4 (xa1) (S1) (xc1)) := hX1.midc
  have L47 : Hid (MidC (v3.heap.size) (v4.heap.size) v4 (ya1) (D1) (yc1)) := hY1.midc
  clear hB hb39 B38 hX1 hY1
  have n48 := Abx.new v4 (.bool false) (.slice xa1 S1.length xc1) (.slice ya1 D1.length yc1)
  have l49 := ((B44.out.al (.cells #[.bool false, .slice xa1 S1.length xc1, .slice ya1 D1.length yc1] 25))).c0
  have l50 := ((B44.out.al (.cells #[.bool false, .slice xa1 S1.length xc1, .slice ya1 D1.length yc1] 25))).c1
  have l51 := ((B44.out.al (.cells #[.bool false, .slice xa1 S1.length xc1, .slice ya1 D1.length yc1] 25))).c2
  go_wp2_with fail
  obtain ⟨wo52, hwo52⟩ : ∃ wo52, wo52 = (v4.alloc (.cells #[.bool false, .slice xa1 S1.length xc1, .slice ya1 D1.length yc1] 25)) := ⟨_, rfl⟩
  rw [← hwo52]
  have z53 : v4.heap.size + 1 ≤ wo52.heap.size := by rw [hwo52]; simp only [World.size_alloc]; omega
  have B54 : Hid (Abx wo52 (w.heap.size) (.bool c1) (.slice sa1 sz1.length sc1) (.slice da1 dz1.length dc1)) := by rw [hwo52]; exact (B44.out.al (.cells #[.bool false, .slice xa1 S1.length xc1, .slice ya1 D1.length yc1] 25))
  have B55 : Hid (Abx wo52 (v4.heap.size) (.bool false) (.slice xa1 S1.length xc1) (.slice ya1 D1.length yc1)) := by rw [hwo52]; exact n48
  have L56 : Hid (MidC (v3.heap.size) (v4.heap.size) wo52 (xa1) (S1) (xc1)) := by rw [hwo52]; exact (L46.out.al (by omega) (.cells #[.bool false, .slice xa1 S1.length xc1, .slice ya1 D1.length yc1] 25))
  have L57 : Hid (MidC (v3.heap.size) (v4.heap.size) wo52 (ya1) (D1) (yc1)) := by rw [hwo52]; exact (L47.out.al (by omega) (.cells #[.bool false, .slice xa1 S1.length xc1, .slice ya1 D1.length yc1] 25))
  have hb58 : Hid (Below w.heap.size w wo52) := by rw [hwo52]; exact (hb45.out.alloc (by omega) (.cells #[.bool false, .slice xa1 S1.length xc1, .slice ya1 D1.length yc1] 25))
  have zwo52 : w.heap.size ≤ wo52.heap.size := hb58.out.size
  clear hwo52 n48 l49 l50 l51 hb45 B44 L46 L47
  refine (rdw_ok f i c1 sa1 sc1 sz1 sz1.length rfl da1 dc1 dz1 dz1.length rfl _ hf hi x11 x12 ((HI1.out.1.below hb58.out).mono hb58.out.size) ((HI1.out.2.1.1.below hb58.out).mono hb58.out.size) HI1.out.2.2.2 S2 D2 HRd HR2.out).mono ?_
  rintro e v5 ⟨xa2, xc2, ya2, yc2, rfl, hX2, hY2, hB⟩
  have z59 : wo52.heap.size ≤ v5.heap.size := hB.size
  have B60 : Hid (Abx v5 (w.heap.size) (.bool c1) (.slice sa1 sz1.length sc1) (.slice da1 dz1.length dc1)) := B54.out.go hB
  have B61 : Hid (Abx v5 (v4.heap.size) (.bool false) (.slice xa1 S1.length xc1) (.slice ya1 D1.length yc1)) := B55.out.go hB
  have L62 : Hid (MidC (v3.heap.size) (v4.heap.size) v5 (xa1) (S1) (xc1)) := L56.out.go (by omega) hB
  have L63 : Hid (MidC (v3.heap.size) (v4.heap.size) v5 (ya1) (D1) (yc1)) := L57.out.go (by omega) hB
  have hb64 : Hid (Below w.heap.size w v5) := hb58.out.trans (hB.mono hb58.out.size)
  have L65 : Hid (MidC (wo52.heap.size) (v5.heap.size) v5 (xa2) (S2) (xc2)) := hX2.midc
  have L66 : Hid (MidC (wo52.heap.size) (v5.heap.size) v5 (ya2) (D2) (yc2)) := hY2.midc
  clear hB hb58 B54 B55 L56 L57 hX2 hY2
  have n67 := Abx.new v5 (.bool false) (.slice xa2 S2.length xc2) (.slice ya2 D2.length yc2)
  have l68 := ((B61.out.al (.cells #[.bool false, .slice xa2 S2.length xc2, .slice ya2 D2.length yc2] 25))).c0
  have l69 := ((B61.out.al (.cells #[.bool false, .slice xa2 S2.length xc2, .slice ya2 D2.length yc2] 25))).c1
  have l70 := ((B61.out.al (.cells #[.bool false, .slice xa2 S2.length xc2, .slice ya2 D2.length yc2] 25))).c2
  go_wp2_with fail
  obtain ⟨wo71, hwo71⟩ : ∃ wo71, wo71 = (v5.alloc (.cells #[.bool false, .slice xa2 S2.length xc2, .slice ya2 D2.length yc2] 25)) := ⟨_, rfl⟩
  rw [← hwo71]
  have z72 : v5.heap.size + 1 ≤ wo71.heap.size := by rw [hwo71]; simp only [World.size_alloc]; omega
  have B73 : Hid (Abx wo71 (w.heap.size) (.bool c1) (.slice sa1 sz1.length sc1) (.slice da1 dz1.length dc1)) := by rw [hwo71]; exact (B60.out.al (.cells #[.bool false, .slice xa2 S2.length xc2, .slice ya2 D2.length yc2] 25))
  have B74 : Hid (Abx wo71 (v4.heap.size) (.bool false) (.slice xa1 S1.length xc1) (.slice ya1 D1.length yc1)) := by rw [hwo71]; exact (B61.out.al (.cells #[.bool false, .slice xa2 S2.length xc2, .slice ya2 D2.length yc2] 25))
  have B75 : Hid (Abx wo71 (v5.heap.size) (.bool false) (.slice xa2 S2.length xc2) (.slice ya2 D2.length yc2)) := by rw [hwo71]; exact n67
  have L76 : Hid (MidC (v3.heap.size) (v4.heap.size) wo71 (xa1) (S1) (xc1)) := by rw [hwo71]; exact (L62.out.al (by omega) (.cells #[.bool false, .slice xa2 S2.length xc2, .slice ya2 D2.length yc2] 25))
  have L77 : Hid (MidC (v3.heap.size) (v4.heap.size) wo71 (ya1) (D1) (yc1)) := by rw [hwo71]; exact (L63.out.al (by omega) (.cells #[.bool false, .slice xa2 S2.length xc2, .slice ya2 D2.length yc2] 25))
  have L78 : Hid (MidC (wo52.heap.size) (v5.heap.size) wo71 (xa2) (S2) (xc2)) := by rw [hwo71]; exact (L65.out.al (by omega) (.cells #[.bool false, .slice xa2 S2.length xc2, .slice ya2 D2.length yc2] 25))
  have L79 : Hid (MidC (wo52.heap.size) (v5.heap.size) wo71 (ya2) (D2) (yc2)) := by rw [hwo71]; exact (L66.out.al (by omega) (.cells #[.bool false, .slice xa2 S2.length xc2, .slice ya2 D2.length yc2] 25))
  have hb80 : Hid (Below w.heap.size w wo71) := by rw [hwo71]; exact (hb64.out.alloc (by omega) (.cells #[.bool false, .slice xa2 S2.length xc2, .slice ya2 D2.length yc2] 25))
  have zwo71 : w.heap.size ≤ wo71.heap.size := hb80.out.size
  clear hwo71 n67 l68 l69 l70 hb64 B60 B61 L62 L63 L65 L66
  refine (rdw_no f i false xa1 xc1 S1 S1.length rfl ya1 yc1 D1 D1.length rfl _ hf hi (by omega) (by omega) (L76.out.is (by omega)) (L77.out.is (by omega)).1 TD.out.1 HRd 7 HN3.out).mono ?_
  rintro e v6 ⟨xa3, xc3, ya3, yc3, rfl, hB⟩
  have z81 : wo71.heap.size ≤ v6.heap.size := hB.size
  have B82 : Hid (Abx v6 (w.heap.size) (.bool c1) (.slice sa1 sz1.length sc1) (.slice da1 dz1.length dc1)) := B73.out.go hB
  have B83 : Hid (Abx v6 (v4.heap.size) (.bool false) (.slice xa1 S1.length xc1) (.slice ya1 D1.length yc1)) := B74.out.go hB
  have B84 : Hid (Abx v6 (v5.heap.size) (.bool false) (.slice xa2 S2.length xc2) (.slice ya2 D2.length yc2)) := B75.out.go hB
  have L85 : Hid (MidC (v3.heap.size) (v4.heap.size) v6 (xa1) (S1) (xc1)) := L76.out.go (by omega) hB
  have L86 : Hid (MidC (v3.heap.size) (v4.heap.size) v6 (ya1) (D1) (yc1)) := L77.out.go (by omega) hB
  have L87 : Hid (MidC (wo52.heap.size) (v5.heap.size) v6 (xa2) (S2) (xc2)) := L78.out.go (by omega) hB
  have L88 : Hid (MidC (wo52.heap.size) (v5.heap.size) v6 (ya2) (D2) (yc2)) := L79.out.go (by omega) hB
  have hb89 : Hid (Below w.heap.size w v6) := hb80.out.trans (hB.mono hb80.out.size)
  clear hB hb80 B73 B74 B75 L76 L77 L78 L79
  have l90 := (B83.out).fr 0
  have l91 := (B83.out).c0
  have l92 := (B83.out).fr 1
  have l93 := (B83.out).c1
  have l94 := (B83.out).fr 2
  have l95 := (B83.out).c2
  have l96 := ((abx_o3 B84.out (B := v4.heap.size) (by omega) (.bool false) (.slice xa3 0 xc3) (.slice ya3 0 yc3))).c0
  have l97 := ((abx_o3 B84.out (B := v4.heap.size) (by omega) (.bool false) (.slice xa3 0 xc3) (.slice ya3 0 yc3))).c1
  have l98 := ((abx_o3 B84.out (B := v4.heap.size) (by omega) (.bool false) (.slice xa3 0 xc3) (.slice ya3 0 yc3))).c2
  go_wp2_with fail
  obtain ⟨wo99, hwo99⟩ : ∃ wo99, wo99 = (((v6.setCell ⟨v4.heap.size, 0, none⟩ (.bool false)).setCell ⟨v4.heap.size, 1, none⟩ (.slice xa3 0 xc3)).setCell ⟨v4.heap.size, 2, none⟩ (.slice ya3 0 yc3)) := ⟨_, rfl⟩
  rw [← hwo99]
  have z100 : v6.heap.size ≤ wo99.heap.size := by rw [hwo99]; simp only [World.size_setCell]; omega
  have B101 : Hid (Abx wo99 (w.heap.size) (.bool c1) (.slice sa1 sz1.length sc1) (.slice da1 dz1.length dc1)) := by rw [hwo99]; exact (abx_o3 B82.out (B := v4.heap.size) (by omega) (.bool false) (.slice xa3 0 xc3) (.slice ya3 0 yc3))
  have B102 : Hid (Abx wo99 (v4.heap.size) (.bool false) (.slice xa3 0 xc3) (.slice ya3 0 yc3)) := by rw [hwo99]; exact (B83.out.set3 (.bool false) (.slice xa3 0 xc3) (.slice ya3 0 yc3))
  have B103 : Hid (Abx wo99 (v5.heap.size) (.bool false) (.slice xa2 S2.length xc2) (.slice ya2 D2.length yc2)) := by rw [hwo99]; exact (abx_o3 B84.out (B := v4.heap.size) (by omega) (.bool false) (.slice xa3 0 xc3) (.slice ya3 0 yc3))
  have L104 : Hid (MidC (v3.heap.size) (v4.heap.size) wo99 (xa1) (S1) (xc1)) := by rw [hwo99]; exact (L85.out.s3 (b := v4.heap.size) (by omega) (.bool false) (.slice xa3 0 xc3) (.slice ya3 0 yc3))
  have L105 : Hid (MidC (v3.heap.size) (v4.heap.size) wo99 (ya1) (D1) (yc1)) := by rw [hwo99]; exact (L86.out.s3 (b := v4.heap.size) (by omega) (.bool false) (.slice xa3 0 xc3) (.slice ya3 0 yc3))
  have L106 : Hid (MidC (wo52.heap.size) (v5.heap.size) wo99 (xa2) (S2) (xc2)) := by rw [hwo99]; exact (L87.out.s3 (b := v4.heap.size) (by omega) (.bool false) (.slice xa3 0 xc3) (.slice ya3 0 yc3))
  have L107 : Hid (MidC (wo52.heap.size) (v5.heap.size) wo99 (ya2) (D2) (yc2)) := by rw [hwo99]; exact (L88.out.s3 (b := v4.heap.size) (by omega) (.bool false) (.slice xa3 0 xc3) (.slice ya3 0 yc3))
  have hb108 : Hid (Below w.heap.size w wo99) := by rw [hwo99]; exact (bel_s3 hb89.out (B := v4.heap.size) (by omega) (.bool false) (.slice xa3 0 xc3) (.slice ya3 0 yc3))
  have zwo99 : w.heap.size ≤ wo99.heap.size := hb108.out.size
  clear hwo99 l90 l91 l92 l93 l94 l95 l96 l97 l98 hb89 B82 B83 B84 L85 L86 L87 L88
  refine (rdw_no f (j - 1) false xa2 xc2 S2 S2.length rfl ya2 yc2 D2 D2.length rfl _ hf hj1 (by omega) (by omega) (L106.out.is (by omega)) (L107.out.is (by omega)).1 TD.out.2 HRd 7 HN4.out).mono ?_
  rintro e v7 ⟨xa4, xc4, ya4, yc4, rfl, hB⟩
  have z109 : wo99.heap.size ≤ v7.heap.size := hB.size
  have B110 : Hid (Abx v7 (w.heap.size) (.bool c1) (.slice sa1 sz1.length sc1) (.slice da1 dz1.length dc1)) := B101.out.go hB
  have B111 : Hid (Abx v7 (v4.heap.size) (.bool false) (.slice xa3 0 xc3) (.slice ya3 0 yc3)) := B102.out.go hB
  have B112 : Hid (Abx v7 (v5.heap.size) (.bool false) (.slice xa2 S2.length xc2) (.slice ya2 D2.length yc2)) := B103.out.go hB
  have L113 : Hid (MidC (v3.heap.size) (v4.heap.size) v7 (xa1) (S1) (xc1)) := L104.out.go (by omega) hB
  have L114 : Hid (MidC (v3.heap.size) (v4.heap.size) v7 (ya1) (D1) (yc1)) := L105.out.go (by omega) hB
  have L115 : Hid (MidC (wo52.heap.size) (v5.heap.size) v7 (xa2) (S2) (xc2)) := L106.out.go (by omega) hB
  have L116 : Hid (MidC (wo52.heap.size) (v5.heap.size) v7 (ya2) (D2) (yc2)) := L107.out.go (by omega) hB
  have hb117 : Hid (Below w.heap.size w v7) := hb108.out.trans (hB.mono hb108.out.size)
  clear hB hb108 B101 B102 B103 L104 L105 L106 L107
  have l118 := (B112.out).fr 0
  have l119 := (B112.out).c0
  have l120 := (B112.out).fr 1
  have l121 := (B112.out).c1
  have l122 := (B112.out).fr 2
  have l123 := (B112.out).c2
  go_wp2_with fail
  obtain ⟨wo124, hwo124⟩ : ∃ wo124, wo124 = (((v7.setCell ⟨v5.heap.size, 0, none⟩ (.bool false)).setCell ⟨v5.heap.size, 1, none⟩ (.slice xa4 0 xc4)).setCell ⟨v5.heap.size, 2, none⟩ (.slice ya4 0 yc4)) := ⟨_, rfl⟩
  rw [← hwo124]
  have z125 : v7.heap.size ≤ wo124.heap.size := by rw [hwo124]; simp only [World.size_setCell]; omega
  have B126 : Hid (Abx wo124 (w.heap.size) (.bool c1) (.slice sa1 sz1.length sc1) (.slice da1 dz1.length dc1)) := by rw [hwo124]; exact (abx_o3 B110.out (B := v5.heap.size) (by omega) (.bool false) (.slice xa4 0 xc4) (.slice ya4 0 yc4))
  have B127 : Hid (Abx wo124 (v4.heap.size) (.bool false) (.slice xa3 0 xc3) (.slice ya3 0 yc3)) := by rw [hwo124]; exact (abx_o3 B111.out (B := v5.heap.size) (by omega) (.bool false) (.slice xa4 0 xc4) (.slice ya4 0 yc4))
  have B128 : Hid (Abx wo124 (v5.heap.size) (.bool false) (.slice xa4 0 xc4) (.slice ya4 0 yc4)) := by rw [hwo124]; exact (B112.out.set3 (.bool false) (.slice xa4 0 xc4) (.slice ya4 0 yc4))
  have L129 : Hid (MidC (v3.heap.size) (v4.heap.size) wo124 (xa1) (S1) (xc1)) := by rw [hwo124]; exact (L113.out.s3 (b := v5.heap.size) (by omega) (.bool false) (.slice xa4 0 xc4) (.slice ya4 0 yc4))
  have L130 : Hid (MidC (v3.heap.size) (v4.heap.size) wo124 (ya1) (D1) (yc1)) := by rw [hwo124]; exact (L114.out.s3 (b := v5.heap.size) (by omega) (.bool false) (.slice xa4 0 xc4) (.slice ya4 0 yc4))
  have L131 : Hid (MidC (wo52.heap.size) (v5.heap.size) wo124 (xa2) (S2) (xc2)) := by rw [hwo124]; exact (L115.out.s3 (b := v5.heap.size) (by omega) (.bool false) (.slice xa4 0 xc4) (.slice ya4 0 yc4))
  have L132 : Hid (MidC (wo52.heap.size) (v5.heap.size) wo124 (ya2) (D2) (yc2)) := by rw [hwo124]; exact (L116.out.s3 (b := v5.heap.size) (by omega) (.bool false) (.slice xa4 0 xc4) (.slice ya4 0 yc4))
  have hb133 : Hid (Below w.heap.size w wo124) := by rw [hwo124]; exact (bel_s3 hb117.out (B := v5.heap.size) (by omega) (.bool false) (.slice xa4 0 xc4) (.slice ya4 0 yc4))
  have zwo124 : w.heap.size ≤ wo124.heap.size := hb133.out.size
  clear hwo124 l118 l119 l120 l121 l122 l123 hb117 B110 B111 B112 L113 L114 L115 L116
  refine (error_same 7 _ (HG.out.below hb133.out HG.out.pos)).mono ?_
  rintro e v8 ⟨rfl, hB⟩
  have z134 : wo124.heap.size ≤ v8.heap.size := hB.size
  have B135 : Hid (Abx v8 (w.heap.size) (.bool c1) (.slice sa1 sz1.length sc1) (.slice da1 dz1.length dc1)) := B126.out.go hB
  have B136 : Hid (Abx v8 (v4.heap.size) (.bool false) (.slice xa3 0 xc3) (.slice ya3 0 yc3)) := B127.out.go hB
  have B137 : Hid (Abx v8 (v5.heap.size) (.bool false) (.slice xa4 0 xc4) (.slice ya4 0 yc4)) := B128.out.go hB
  have L138 : Hid (MidC (v3.heap.size) (v4.heap.size) v8 (xa1) (S1) (xc1)) := L129.out.go (by omega) hB
  have L139 : Hid (MidC (v3.heap.size) (v4.heap.size) v8 (ya1) (D1) (yc1)) := L130.out.go (by omega) hB
  have L140 : Hid (MidC (wo52.heap.size) (v5.heap.size) v8 (xa2) (S2) (xc2)) := L131.out.go (by omega) hB
  have L141 : Hid (MidC (wo52.heap.size) (v5.heap.size) v8 (ya2) (D2) (yc2)) := L132.out.go (by omega) hB
  have hb142 : Hid (Below w.heap.size w v8) := hb133.out.trans (hB.mono hb133.out.size)
  clear hB hb133 B126 B127 B128 L129 L130 L131 L132
  go_wp2_with fail
  refine (error_same 7 _ (HG.out.below hb142.out HG.out.pos)).mono ?_
  rintro e v9 ⟨rfl, hB⟩
  have z143 : v8.heap.size ≤ v9.heap.size := hB.size
  have B144 : Hid (Abx v9 (w.heap.size) (.bool c1) (.slice sa1 sz1.length sc1) (.slice da1 dz1.length dc1)) := B135.out.go hB
  have B145 : Hid (Abx v9 (v4.heap.size) (.bool false) (.slice xa3 0 xc3) (.slice ya3 0 yc3)) := B136.out.go hB
  have B146 : Hid (Abx v9 (v5.heap.size) (.bool false) (.slice xa4 0 xc4) (.slice ya4 0 yc4)) := B137.out.go hB
  have L147 : Hid (MidC (v3.heap.size) (v4.heap.size) v9 (xa1) (S1) (xc1)) := L138.out.go (by omega) hB
  have L148 : Hid (MidC (v3.heap.size) (v4.heap.size) v9 (ya1) (D1) (yc1)) := L139.out.go (by omega) hB
  have L149 : Hid (MidC (wo52.heap.size) (v5.heap.size) v9 (xa2) (S2) (xc2)) := L140.out.go (by omega) hB
  have L150 : Hid (MidC (wo52.heap.size) (v5.heap.size) v9 (ya2) (D2) (yc2)) := L141.out.go (by omega) hB
  have hb151 : Hid (Below w.heap.size w v9) := hb142.out.trans (hB.mono hb142.out.size)
  clear hB hb142 B135 B136 B137 L138 L139 L140 L141
  go_wp2_with fail
  go_ret
  exact ⟨rfl, hb151.out⟩
set_option maxRecDepth 100000 in
set_option maxHeartbeats 8000000 in
theorem axes_ok (HRd : CRd) (f i j : Int) (hf : In64 f) (hi : In64 i) (hj : In64 j) (c1 : Bool) (sa1 : Option Addr) (sc1 : Nat) (sz1 : List Int) (da1 : Option Addr) (dc1 : Nat) (dz1 : List Int) (w : World) (hg : HasErr w) (w8 : IsArrD w sa1 sz1 sc1 da1 dz1 dc1) (F2 : Hid (Mon f)) (hi0 : ¬ i < 0) (hij : ¬ j ≤ i) (G1 : Hid (rdE f j c1 sz1 dz1 = 0)) (G2 : Hid (rdE f i c1 sz1 dz1 = 0)) (G3 : Hid (errOf (xout i.toNat (xout j.toNat sz1)) = 0)) :
    Calls Tryd.prog 5 #[.int .i64 f, .int .i64 i, .int .i64 j, .agg #[.bool c1, .slice sa1 sz1.length sc1, .slice da1 dz1.length dc1]] w fun e w' => e = .returned (.bool true) ∧ Below w.heap.size w w' := by
  have T1 := w8.2.2.2.2.2
  obtain ⟨S1, hS1⟩ : ∃ S, S = xout j.toNat sz1 := ⟨_, rfl⟩
  obtain ⟨D1, hD1⟩ : ∃ D, D = rdD f sz1 dz1 j.toNat := ⟨_, rfl⟩
  have HR1 : Hid (rdE f j c1 sz1 dz1 = 0 ∧ xout j.toNat sz1 = S1 ∧ rdD f sz1 dz1 j.toNat = D1) := ⟨G1.out, hS1.symm, hD1.symm⟩
  obtain ⟨S2, hS2⟩ : ∃ S, S = xout i.toNat sz1 := ⟨_, rfl⟩
  obtain ⟨D2, hD2⟩ : ∃ D, D = rdD f sz1 dz1 i.toNat := ⟨_, rfl⟩
  have HR2 : Hid (rdE f i c1 sz1 dz1 = 0 ∧ xout i.toNat sz1 = S2 ∧ rdD f sz1 dz1 i.toNat = D2) := ⟨G2.out, hS2.symm, hD2.symm⟩
  obtain ⟨b1, b2, b3, b4, b5, b6⟩ := ax_two F2.out hi0 hij G1.out G2.out T1
  rw [← hS1, ← hD1] at b1
  rw [← hS2, ← hD2] at b2
  have TD : Hid ((∀ j, In64 (nth D1 j)) ∧ ∀ j, In64 (nth D2 j)) := ⟨by rw [hD1]; exact rd_64 (rdE_zero.1 G1.out).2.2.1 T1, by rw [hD2]; exact rd_64 (rdE_zero.1 G2.out).2.2.1 T1⟩
  have l1 : S1.length ≤ 4096 ∧ D1.length ≤ 4096 := by rw [hS1, hD1]; exact ⟨(errS (rdE_zero.1 G1.out).2.2.1).1, by unfold rdD; rw [TA_length]; exact (errS (rdE_zero.1 G1.out).2.2.1).2⟩
  have l2 : S2.length ≤ 4096 ∧ D2.length ≤ 4096 := by rw [hS2, hD2]; exact ⟨(errS (rdE_zero.1 G2.out).2.2.1).1, by unfold rdD; rw [TA_length]; exact (errS (rdE_zero.1 G2.out).2.2.1).2⟩
  obtain ⟨S3, hS3⟩ : ∃ S, S = xout i.toNat S1 := ⟨_, rfl⟩
  obtain ⟨D3, hD3⟩ : ∃ D, D = rdD f S1 D1 i.toNat := ⟨_, rfl⟩
  obtain ⟨c1', c2'⟩ := b6 G3.out
  rw [← hS1, ← hS2] at c1'
  rw [← hS1, ← hD1, ← hS2, ← hD2] at c2'
  have HR3 : Hid (rdE f i false S1 D1 = 0 ∧ xout i.toNat S1 = S3 ∧ rdD f S1 D1 i.toNat = D3) := ⟨by rw [b1, hS1]; exact G3.out, hS3.symm, hD3.symm⟩
  have HR4 : Hid (rdE f (j - 1) false S2 D2 = 0 ∧ xout (j - 1).toNat S2 = S3 ∧ rdD f S2 D2 (j - 1).toNat = D3) := ⟨by rw [b2]; exact G3.out, by rw [hS3, c1'], by rw [hD3, c2']⟩
  have l3 : S3.length ≤ 4096 ∧ D3.length ≤ 4096 := by rw [hS3, hD3]; exact ⟨(errS (rdE_zero.1 HR3.out.1).2.2.1).1, by unfold rdD; rw [TA_length]; exact (errS (rdE_zero.1 HR3.out.1).2.2.1).2⟩
  have hj1 : In64 (j - 1) := by unfold In64 at hj ⊢; omega
  have hjb : 0 < j ∧ j ≤ 9223372036854775807 := by unfold In64 at hj; omega
  clear hS1 hD1 hS2 hD2 b1 b2 b3 b4 b5 b6 T1 hS3 hD3 c1' c2'
  obtain ⟨x11, x12, x3, x4, s64, T⟩ := w8
  have HI1 : Hid (IsC w.heap.size w sa1 sz1 sc1 ∧ IsC w.heap.size w da1 dz1 dc1 ∧ (∀ j, In64 (nth sz1 j)) ∧ ∀ j, In64 (nth dz1 j)) := ⟨x3, x4, s64, T⟩
  clear x3 x4 T s64
  have HG : Hid (HasErr w) := hg
  clear hg
  have n1 := Abx.new w (.bool c1) (.slice sa1 sz1.length sc1) (.slice da1 dz1.length dc1)
  have n2 := lit_mid (w.alloc (.cells #[.bool c1, .slice sa1 sz1.length sc1, .slice da1 dz1.length dc1] 25)) 3 [2, 2] 2 rfl
  simp only [World.size_alloc, List.map_cons, List.map_nil] at n2
  have n3 := lit_mid ((w.alloc (.cells #[.bool c1, .slice sa1 sz1.length sc1, .slice da1 dz1.length dc1] 25)).alloc (.cells #[.int .i64 2, .int .i64 2] 3)) 3 [1, 2, 3, 4] 4 rfl
  simp only [World.size_alloc, List.map_cons, List.map_nil] at n3
  go_enter Tryd.func5, Tryd.ntmps5
  go_wp2_with fail
  obtain ⟨wo4, hwo4⟩ : ∃ wo4, wo4 = (((w.alloc (.cells #[.bool c1, .slice sa1 sz1.length sc1, .slice da1 dz1.length dc1] 25)).alloc (.cells #[.int .i64 2, .int .i64 2] 3)).alloc (.cells #[.int .i64 1, .int .i64 2, .int .i64 3, .int .i64 4] 3)) := ⟨_, rfl⟩
  rw [← hwo4]
  have z5 : w.heap.size + 1 + 1 + 1 ≤ wo4.heap.size := by rw [hwo4]; simp only [World.size_alloc]; omega
  have B6 : Hid (Abx wo4 (w.heap.size) (.bool c1) (.slice sa1 sz1.length sc1) (.slice da1 dz1.length dc1)) := by rw [hwo4]; exact ((n1.al (.cells #[.int .i64 2, .int .i64 2] 3)).al (.cells #[.int .i64 1, .int .i64 2, .int .i64 3, .int .i64 4] 3))
  have L7 : Hid (MidC (w.heap.size + 1) (w.heap.size + 1 + 1) wo4 (some ⟨w.heap.size + 1, 0, none⟩) ([2, 2]) (2)) := by rw [hwo4]; exact (n2.al (by simp only [World.size_alloc]; omega) (.cells #[.int .i64 1, .int .i64 2, .int .i64 3, .int .i64 4] 3))
  have L8 : Hid (MidC (w.heap.size + 1 + 1) (w.heap.size + 1 + 1 + 1) wo4 (some ⟨w.heap.size + 1 + 1, 0, none⟩) ([1, 2, 3, 4]) (4)) := by rw [hwo4]; exact n3
  have hb9 : Hid (Below w.heap.size w wo4) := by rw [hwo4]; exact ((((Below.refl w.heap.size w).alloc (by omega) (.cells #[.bool c1, .slice sa1 sz1.length sc1, .slice da1 dz1.length dc1] 25)).alloc (by simp only [World.size_alloc]; omega) (.cells #[.int .i64 2, .int .i64 2] 3)).alloc (by simp only [World.size_alloc]; omega) (.cells #[.int .i64 1, .int .i64 2, .int .i64 3, .int .i64 4] 3))
  have zwo4 : w.heap.size ≤ wo4.heap.size := hb9.out.size
  clear hwo4 n1 n2 n3
  refine (rdw_ok 1 0 false (some ⟨w.heap.size + 1, 0, none⟩) 2 [2, 2] 2 rfl (some ⟨w.heap.size + 1 + 1, 0, none⟩) 4 [1, 2, 3, 4] 4 rfl _ (by unfold In64; decide) (by unfold In64; decide) (by decide) (by decide) (L7.out.is (by omega)) (L8.out.is (by omega)).1 (lit12 (by decide)) [2] [4, 6] HRd (by show rdE 1 0 false [2, 2] [1, 2, 3, 4] = 0 ∧ xout (0 : Int).toNat [2, 2] = [2] ∧ rdD 1 [2, 2] [1, 2, 3, 4] (0 : Int).toNat = [4, 6]; decide +kernel)).mono ?_
  rintro e v1 ⟨f1, g1, f2, g2, rfl, hX0, hY0, hB⟩
  have z10 : wo4.heap.size ≤ v1.heap.size := hB.size
  have B11 : Hid (Abx v1 (w.heap.size) (.bool c1) (.slice sa1 sz1.length sc1) (.slice da1 dz1.length dc1)) := B6.out.go hB
  have L12 : Hid (MidC (w.heap.size + 1) (w.heap.size + 1 + 1) v1 (some ⟨w.heap.size + 1, 0, none⟩) ([2, 2]) (2)) := L7.out.go (by omega) hB
  have L13 : Hid (MidC (w.heap.size + 1 + 1) (w.heap.size + 1 + 1 + 1) v1 (some ⟨w.heap.size + 1 + 1, 0, none⟩) ([1, 2, 3, 4]) (4)) := L8.out.go (by omega) hB
  have hb14 : Hid (Below w.heap.size w v1) := hb9.out.trans (hB.mono hb9.out.size)
  have L15 : Hid (MidC (wo4.heap.size) (v1.heap.size) v1 (f1) ([2]) (g1)) := hX0.midc
  have L16 : Hid (MidC (wo4.heap.size) (v1.heap.size) v1 (f2) ([4, 6]) (g2)) := hY0.midc
  clear hB hb9 B6 L7 L8 hX0 hY0
  clear L12 L13
  have n17 := Abx.new v1 (.bool false) (.slice f1 1 g1) (.slice f2 2 g2)
  have l18 := (n17).c0
  have l19 := (n17).c1
  have l20 := (n17).c2
  have n21 := lit_mid (v1.alloc (.cells #[.bool false, .slice f1 1 g1, .slice f2 2 g2] 25)) 3 [4, 6] 2 rfl
  simp only [World.size_alloc, List.map_cons, List.map_nil] at n21
  go_wp2_with fail
  obtain ⟨wo22, hwo22⟩ : ∃ wo22, wo22 = ((v1.alloc (.cells #[.bool false, .slice f1 1 g1, .slice f2 2 g2] 25)).alloc (.cells #[.int .i64 4, .int .i64 6] 3)) := ⟨_, rfl⟩
  rw [← hwo22]
  have z23 : v1.heap.size + 1 + 1 ≤ wo22.heap.size := by rw [hwo22]; simp only [World.size_alloc]; omega
  have B24 : Hid (Abx wo22 (w.heap.size) (.bool c1) (.slice sa1 sz1.length sc1) (.slice da1 dz1.length dc1)) := by rw [hwo22]; exact ((B11.out.al (.cells #[.bool false, .slice f1 1 g1, .slice f2 2 g2] 25)).al (.cells #[.int .i64 4, .int .i64 6] 3))
  have B25 : Hid (Abx wo22 (v1.heap.size) (.bool false) (.slice f1 1 g1) (.slice f2 2 g2)) := by rw [hwo22]; exact (n17.al (.cells #[.int .i64 4, .int .i64 6] 3))
  have L26 : Hid (MidC (wo4.heap.size) (v1.heap.size) wo22 (f1) ([2]) (g1)) := by rw [hwo22]; exact ((L15.out.al (by omega) (.cells #[.bool false, .slice f1 1 g1, .slice f2 2 g2] 25)).al (by simp only [World.size_alloc]; omega) (.cells #[.int .i64 4, .int .i64 6] 3))
  have L27 : Hid (MidC (wo4.heap.size) (v1.heap.size) wo22 (f2) ([4, 6]) (g2)) := by rw [hwo22]; exact ((L16.out.al (by omega) (.cells #[.bool false, .slice f1 1 g1, .slice f2 2 g2] 25)).al (by simp only [World.size_alloc]; omega) (.cells #[.int .i64 4, .int .i64 6] 3))
  have L28 : Hid (MidC (v1.heap.size + 1) (v1.heap.size + 1 + 1) wo22 (some ⟨v1.heap.size + 1, 0, none⟩) ([4, 6]) (2)) := by rw [hwo22]; exact n21
  have hb29 : Hid (Below w.heap.size w wo22) := by rw [hwo22]; exact ((hb14.out.alloc (by omega) (.cells #[.bool false, .slice f1 1 g1, .slice f2 2 g2] 25)).alloc (by simp only [World.size_alloc]; omega) (.cells #[.int .i64 4, .int .i64 6] 3))
  have zwo22 : w.heap.size ≤ wo22.heap.size := hb29.out.size
  clear hwo22 n17 l18 l19 l20 n21 hb14 B11 L15 L16
  refine (ints_any f2 g2 [4, 6] (some ⟨v1.heap.size + 1, 0, none⟩) 2 [4, 6] (by simp) _ _ (L27.out.is (by omega)).1 (L28.out.is (by omega)).1).mono ?_
  rintro e v2 ⟨rfl, hB⟩
  have z30 : wo22.heap.size ≤ v2.heap.size := hB.size
  have B31 : Hid (Abx v2 (w.heap.size) (.bool c1) (.slice sa1 sz1.length sc1) (.slice da1 dz1.length dc1)) := B24.out.go hB
  have B32 : Hid (Abx v2 (v1.heap.size) (.bool false) (.slice f1 1 g1) (.slice f2 2 g2)) := B25.out.go hB
  have L33 : Hid (MidC (wo4.heap.size) (v1.heap.size) v2 (f1) ([2]) (g1)) := L26.out.go (by omega) hB
  have L34 : Hid (MidC (wo4.heap.size) (v1.heap.size) v2 (f2) ([4, 6]) (g2)) := L27.out.go (by omega) hB
  have L35 : Hid (MidC (v1.heap.size + 1) (v1.heap.size + 1 + 1) v2 (some ⟨v1.heap.size + 1, 0, none⟩) ([4, 6]) (2)) := L28.out.go (by omega) hB
  have hb36 : Hid (Below w.heap.size w v2) := hb29.out.trans (hB.mono hb29.out.size)
  clear hB hb29 B24 B25 L26 L27 L28
  rw [eqB_true rfl]
  clear L33 L34 L35 B32
  go_wp2_with fail
  refine (monoid_yes f F2.out _).mono ?_
  rintro e v3 ⟨rfl, hB⟩
  have z37 : v2.heap.size ≤ v3.heap.size := hB.size
  have B38 : Hid (Abx v3 (w.heap.size) (.bool c1) (.slice sa1 sz1.length sc1) (.slice da1 dz1.length dc1)) := B31.out.go hB
  have hb39 : Hid (Below w.heap.size w v3) := hb36.out.trans (hB.mono hb36.out.size)
  clear hB hb36 B31
  have l40 := (B38.out).c0
  have l41 := (B38.out).c1
  have l42 := (B38.out).c2
  go_wp2_with fail
  clear l40 l41 l42
  refine (rdw_ok f j c1 sa1 sc1 sz1 sz1.length rfl da1 dc1 dz1 dz1.length rfl _ hf hj x11 x12 ((HI1.out.1.below hb39.out).mono hb39.out.size) ((HI1.out.2.1.1.below hb39.out).mono hb39.out.size) HI1.out.2.2.2 S1 D1 HRd HR1.out).mono ?_
  rintro e v4 ⟨xa1, xc1, ya1, yc1, rfl, hX1, hY1, hB⟩
  have z43 : v3.heap.size ≤ v4.heap.size := hB.size
  have B44 : Hid (Abx v4 (w.heap.size) (.bool c1) (.slice sa1 sz1.length sc1) (.slice da1 dz1.length dc1)) := B38.out.go hB
  have hb45 : Hid (Below w.heap.size w v4) := hb39.out.trans (hB.mono hb39.out.size)
  have L46 : Hid (MidC (v3.heap.size) (v4.heap.size) v4 (xa1) (S1) (xc1)) := hX1.midc
  have L47 : Hid (MidC (v3.heap.size) (v4.heap.size) v4 (ya1) (D1) (yc1)) := hY1.midc
  clear hB hb39 B38 hX1 hY1
  have n48 := Abx.new v4 (.bool false) (.slice xa1 S1.length xc1) (.slice ya1 D1.length yc1)
  have l49 := ((B44.out.al (.cells #[.bool false, .slice xa1 S1.length xc1, .slice ya1 D1.length yc1] 25))).c0
  have l50 := ((B44.out.al (.cells #[.bool false, .slice xa1 S1.length xc1, .slice ya1 D1.length yc1] 25))).c1
  have l51 := ((B44.out.al (.cells #[.bool false, .slice xa1 S1.length xc1, .slice ya1 D1.length yc1] 25))).c2
  go_wp2_with fail
  obtain ⟨wo52, hwo52⟩ : ∃ wo52, wo52 = (v4.alloc (.cells #[.bool false, .slice xa1 S1.length xc1, .slice ya1 D1.length yc1] 25)) := ⟨_, rfl⟩
  rw [← hwo52]
  have z53 : v4.heap.size + 1 ≤ wo52.heap.size := by rw [hwo52]; simp only [World.size_alloc]; omega
  have B54 : Hid (Abx wo52 (w.heap.size) (.bool c1) (.slice sa1 sz1.length sc1) (.slice da1 dz1.length dc1)) := by rw [hwo52]; exact (B44.out.al (.cells #[.bool false, .slice xa1 S1.length xc1, .slice ya1 D1.length yc1] 25))
  have B55 : Hid (Abx wo52 (v4.heap.size) (.bool false) (.slice xa1 S1.length xc1) (.slice ya1 D1.length yc1)) := by rw [hwo52]; exact n48
  have L56 : Hid (MidC (v3.heap.size) (v4.heap.size) wo52 (xa1) (S1) (xc1)) := by rw [hwo52]; exact (L46.out.al (by omega) (.cells #[.bool false, .slice xa1 S1.length xc1, .slice ya1 D1.length yc1] 25))
  have L57 : Hid (MidC (v3.heap.size) (v4.heap.size) wo52 (ya1) (D1) (yc1)) := by rw [hwo52]; exact (L47.out.al (by omega) (.cells #[.bool false, .slice xa1 S1.length xc1, .slice ya1 D1.length yc1] 25))
  have hb58 : Hid (Below w.heap.size w wo52) := by rw [hwo52]; exact (hb45.out.alloc (by omega) (.cells #[.bool false, .slice xa1 S1.length xc1, .slice ya1 D1.length yc1] 25))
  have zwo52 : w.heap.size ≤ wo52.heap.size := hb58.out.size
  clear hwo52 n48 l49 l50 l51 hb45 B44 L46 L47
  refine (rdw_ok f i c1 sa1 sc1 sz1 sz1.length rfl da1 dc1 dz1 dz1.length rfl _ hf hi x11 x12 ((HI1.out.1.below hb58.out).mono hb58.out.size) ((HI1.out.2.1.1.below hb58.out).mono hb58.out.size) HI1.out.2.2.2 S2 D2 HRd HR2.out).mono ?_
  rintro e v5 ⟨xa2, xc2, ya2, yc2, rfl, hX2, hY2, hB⟩
  have z59 : wo52.heap.size ≤ v5.heap.size := hB.size
  have B60 : Hid (Abx v5 (w.heap.size) (.bool c1) (.slice sa1 sz1.length sc1) (.slice da1 dz1.length dc1)) := B54.out.go hB
  have B61 : Hid (Abx v5 (v4.heap.size) (.bool false) (.slice xa1 S1.length xc1) (.slice ya1 D1.length yc1)) := B55.out.go hB
  have L62 : Hid (MidC (v3.heap.size) (v4.heap.size) v5 (xa1) (S1) (xc1)) := L56.out.go (by omega) hB
  have L63 : Hid (MidC (v3.heap.size) (v4.heap.size) v5 (ya1) (D1) (yc1)) := L57.out.go (by omega) hB
  have hb64 : Hid (Below w.heap.size w v5) := hb58.out.trans (hB.mono hb58.out.size)
  have L65 : Hid (MidC (wo52.heap.size) (v5.heap.size) v5 (xa2) (S2) (xc2)) := hX2.midc
  have L66 : Hid (MidC (wo52.heap.size) (v5.heap.size) v5 (ya2) (D2) (yc2)) := hY2.midc
  clear hB hb58 B54 B55 L56 L57 hX2 hY2
  have n67 := Abx.new v5 (.bool false) (.slice xa2 S2.length xc2) (.slice ya2 D2.length yc2)
  have l68 := ((B61.out.al (.cells #[.bool false, .slice xa2 S2.length xc2, .slice ya2 D2.length yc2] 25))).c0
  have l69 := ((B61.out.al (.cells #[.bool false, .slice xa2 S2.length xc2, .slice ya2 D2.length yc2] 25))).c1
  have l70 := ((B61.out.al (.cells #[.bool false, .slice xa2 S2.length xc2, .slice ya2 D2.length yc2] 25))).c2
  go_wp2_with fail
  obtain ⟨wo71, hwo71⟩ : ∃ wo71, wo71 = (v5.alloc (.cells #[.bool false, .slice xa2 S2.length xc2, .slice ya2 D2.length yc2] 25)) := ⟨_, rfl⟩
  rw [← hwo71]
  have z72 : v5.heap.size + 1 ≤ wo71.heap.size := by rw [hwo71]; simp only [World.size_alloc]; omega
  have B73 : Hid (Abx wo71 (w.heap.size) (.bool c1) (.slice sa1 sz1.length sc1) (.slice da1 dz1.length dc1)) := by rw [hwo71]; exact (B60.out.al (.cells #[.bool false, .slice xa2 S2.length xc2, .slice ya2 D2.length yc2] 25))
  have B74 : Hid (Abx wo71 (v4.heap.size) (.bool false) (.slice xa1 S1.length xc1) (.slice ya1 D1.length yc1)) := by rw [hwo71]; exact (B61.out.al (.cells #[.bool false, .slice xa2 S2.length xc2, .slice ya2 D2.length yc2] 25))
  have B75 : Hid (Abx wo71 (v5.heap.size) (.bool false) (.slice xa2 S2.length xc2) (.slice ya2 D2.length yc2)) := by rw [hwo71]; exact n67
  have L76 : Hid (MidC (v3.heap.size) (v4.heap.size) wo71 (xa1) (S1) (xc1)) := by rw [hwo71]; exact (L62.out.al (by omega) (.cells #[.bool false, .slice xa2 S2.length xc2, .slice ya2 D2.length yc2] 25))
  have L77 : Hid (MidC (v3.heap.size) (v4.heap.size) wo71 (ya1) (D1) (yc1)) := by rw [hwo71]; exact (L63.out.al (by omega) (.cells #[.bool false, .slice xa2 S2.length xc2, .slice ya2 D2.length yc2] 25))
  have L78 : Hid (MidC (wo52.heap.size) (v5.heap.size) wo71 (xa2) (S2) (xc2)) := by rw [hwo71]; exact (L65.out.al (by omega) (.cells #[.bool false, .slice xa2 S2.length xc2, .slice ya2 D2.length yc2] 25))
  have L79 : Hid (MidC (wo52.heap.size) (v5.heap.size) wo71 (ya2) (D2) (yc2)) := by rw [hwo71]; exact (L66.out.al (by omega) (.cells #[.bool false, .slice xa2 S2.length xc2, .slice ya2 D2.length yc2] 25))
  have hb80 : Hid (Below w.heap.size w wo71) := by rw [hwo71]; exact (hb64.out.alloc (by omega) (.cells #[.bool false, .slice xa2 S2.length xc2, .slice ya2 D2.length yc2] 25))
  have zwo71 : w.heap.size ≤ wo71.heap.size := hb80.out.size
  clear hwo71 n67 l68 l69 l70 hb64 B60 B61 L62 L63 L65 L66
  refine (rdw_ok f i false xa1 xc1 S1 S1.length rfl ya1 yc1 D1 D1.length rfl _ hf hi (by omega) (by omega) (L76.out.is (by omega)) (L77.out.is (by omega)).1 TD.out.1 S3 D3 HRd HR3.out).mono ?_
  rintro e v6 ⟨xa3, xc3, ya3, yc3, rfl, hX3, hY3, hB⟩
  have z81 : wo71.heap.size ≤ v6.heap.size := hB.size
  have B82 : Hid (Abx v6 (w.heap.size) (.bool c1) (.slice sa1 sz1.length sc1) (.slice da1 dz1.length dc1)) := B73.out.go hB
  have B83 : Hid (Abx v6 (v4.heap.size) (.bool false) (.slice xa1 S1.length xc1) (.slice ya1 D1.length yc1)) := B74.out.go hB
  have B84 : Hid (Abx v6 (v5.heap.size) (.bool false) (.slice xa2 S2.length xc2) (.slice ya2 D2.length yc2)) := B75.out.go hB
  have L85 : Hid (MidC (v3.heap.size) (v4.heap.size) v6 (xa1) (S1) (xc1)) := L76.out.go (by omega) hB
  have L86 : Hid (MidC (v3.heap.size) (v4.heap.size) v6 (ya1) (D1) (yc1)) := L77.out.go (by omega) hB
  have L87 : Hid (MidC (wo52.heap.size) (v5.heap.size) v6 (xa2) (S2) (xc2)) := L78.out.go (by omega) hB
  have L88 : Hid (MidC (wo52.heap.size) (v5.heap.size) v6 (ya2) (D2) (yc2)) := L79.out.go (by omega) hB
  have hb89 : Hid (Below w.heap.size w v6) := hb80.out.trans (hB.mono hb80.out.size)
  have L90 : Hid (MidC (wo71.heap.size) (v6.heap.size) v6 (xa3) (S3) (xc3)) := hX3.midc
  have L91 : Hid (MidC (wo71.heap.size) (v6.heap.size) v6 (ya3) (D3) (yc3)) := hY3.midc
  clear hB hb80 B73 B74 B75 L76 L77 L78 L79 hX3 hY3
  clear L85 L86
  have l92 := (B83.out).fr 0
  have l93 := (B83.out).c0
  have l94 := (B83.out).fr 1
  have l95 := (B83.out).c1
  have l96 := (B83.out).fr 2
  have l97 := (B83.out).c2
  have l98 := ((abx_o3 B84.out (B := v4.heap.size) (by omega) (.bool false) (.slice xa3 S3.length xc3) (.slice ya3 D3.length yc3))).c0
  have l99 := ((abx_o3 B84.out (B := v4.heap.size) (by omega) (.bool false) (.slice xa3 S3.length xc3) (.slice ya3 D3.length yc3))).c1
  have l100 := ((abx_o3 B84.out (B := v4.heap.size) (by omega) (.bool false) (.slice xa3 S3.length xc3) (.slice ya3 D3.length yc3))).c2
  go_wp2_with fail
  obtain ⟨wo101, hwo101⟩ : ∃ wo101, wo101 = (((v6.setCell ⟨v4.heap.size, 0, none⟩ (.bool false)).setCell ⟨v4.heap.size, 1, none⟩ (.slice xa3 S3.length xc3)).setCell ⟨v4.heap.size, 2, none⟩ (.slice ya3 D3.length yc3)) := ⟨_, rfl⟩
  rw [← hwo101]
  have z102 : v6.heap.size ≤ wo101.heap.size := by rw [hwo101]; simp only [World.size_setCell]; omega
  have B103 : Hid (Abx wo101 (w.heap.size) (.bool c1) (.slice sa1 sz1.length sc1) (.slice da1 dz1.length dc1)) := by rw [hwo101]; exact (abx_o3 B82.out (B := v4.heap.size) (by omega) (.bool false) (.slice xa3 S3.length xc3) (.slice ya3 D3.length yc3))
  have B104 : Hid (Abx wo101 (v4.heap.size) (.bool false) (.slice xa3 S3.length xc3) (.slice ya3 D3.length yc3)) := by rw [hwo101]; exact (B83.out.set3 (.bool false) (.slice xa3 S3.length xc3) (.slice ya3 D3.length yc3))
  have B105 : Hid (Abx wo101 (v5.heap.size) (.bool false) (.slice xa2 S2.length xc2) (.slice ya2 D2.length yc2)) := by rw [hwo101]; exact (abx_o3 B84.out (B := v4.heap.size) (by omega) (.bool false) (.slice xa3 S3.length xc3) (.slice ya3 D3.length yc3))
  have L106 : Hid (MidC (wo52.heap.size) (v5.heap.size) wo101 (xa2) (S2) (xc2)) := by rw [hwo101]; exact (L87.out.s3 (b := v4.heap.size) (by omega) (.bool false) (.slice xa3 S3.length xc3) (.slice ya3 D3.length yc3))
  have L107 : Hid (MidC (wo52.heap.size) (v5.heap.size) wo101 (ya2) (D2) (yc2)) := by rw [hwo101]; exact (L88.out.s3 (b := v4.heap.size) (by omega) (.bool false) (.slice xa3 S3.length xc3) (.slice ya3 D3.length yc3))
  have L108 : Hid (MidC (wo71.heap.size) (v6.heap.size) wo101 (xa3) (S3) (xc3)) := by rw [hwo101]; exact (L90.out.s3 (b := v4.heap.size) (by omega) (.bool false) (.slice xa3 S3.length xc3) (.slice ya3 D3.length yc3))
  have L109 : Hid (MidC (wo71.heap.size) (v6.heap.size) wo101 (ya3) (D3) (yc3)) := by rw [hwo101]; exact (L91.out.s3 (b := v4.heap.size) (by omega) (.bool false) (.slice xa3 S3.length xc3) (.slice ya3 D3.length yc3))
  have hb110 : Hid (Below w.heap.size w wo101) := by rw [hwo101]; exact (bel_s3 hb89.out (B := v4.heap.size) (by omega) (.bool false) (.slice xa3 S3.length xc3) (.slice ya3 D3.length yc3))
  have zwo101 : w.heap.size ≤ wo101.heap.size := hb110.out.size
  clear hwo101 l92 l93 l94 l95 l96 l97 l98 l99 l100 hb89 B82 B83 B84 L87 L88 L90 L91
  refine (rdw_ok f (j - 1) false xa2 xc2 S2 S2.length rfl ya2 yc2 D2 D2.length rfl _ hf hj1 (by omega) (by omega) (L106.out.is (by omega)) (L107.out.is (by omega)).1 TD.out.2 S3 D3 HRd HR4.out).mono ?_
  rintro e v7 ⟨xa4, xc4, ya4, yc4, rfl, hX4, hY4, hB⟩
  have z111 : wo101.heap.size ≤ v7.heap.size := hB.size
  have B112 : Hid (Abx v7 (w.heap.size) (.bool c1) (.slice sa1 sz1.length sc1) (.slice da1 dz1.length dc1)) := B103.out.go hB
  have B113 : Hid (Abx v7 (v4.heap.size) (.bool false) (.slice xa3 S3.length xc3) (.slice ya3 D3.length yc3)) := B104.out.go hB
  have B114 : Hid (Abx v7 (v5.heap.size) (.bool false) (.slice xa2 S2.length xc2) (.slice ya2 D2.length yc2)) := B105.out.go hB
  have L115 : Hid (MidC (wo52.heap.size) (v5.heap.size) v7 (xa2) (S2) (xc2)) := L106.out.go (by omega) hB
  have L116 : Hid (MidC (wo52.heap.size) (v5.heap.size) v7 (ya2) (D2) (yc2)) := L107.out.go (by omega) hB
  have L117 : Hid (MidC (wo71.heap.size) (v6.heap.size) v7 (xa3) (S3) (xc3)) := L108.out.go (by omega) hB
  have L118 : Hid (MidC (wo71.heap.size) (v6.heap.size) v7 (ya3) (D3) (yc3)) := L109.out.go (by omega) hB
  have hb119 : Hid (Below w.heap.size w v7) := hb110.out.trans (hB.mono hb110.out.size)
  have L120 : Hid (MidC (wo101.heap.size) (v7.heap.size) v7 (xa4) (S3) (xc4)) := hX4.midc
  have L121 : Hid (MidC (wo101.heap.size) (v7.heap.size) v7 (ya4) (D3) (yc4)) := hY4.midc
  clear hB hb110 B103 B104 B105 L106 L107 L108 L109 hX4 hY4
  clear L115 L116
  have l122 := (B114.out).fr 0
  have l123 := (B114.out).c0
  have l124 := (B114.out).fr 1
  have l125 := (B114.out).c1
  have l126 := (B114.out).fr 2
  have l127 := (B114.out).c2
  have l128 := ((abx_o3 B113.out (B := v5.heap.size) (by omega) (.bool false) (.slice xa4 S3.length xc4) (.slice ya4 D3.length yc4))).c0
  have l129 := ((abx_o3 B113.out (B := v5.heap.size) (by omega) (.bool false) (.slice xa4 S3.length xc4) (.slice ya4 D3.length yc4))).c1
  have l130 := ((abx_o3 B113.out (B := v5.heap.size) (by omega) (.bool false) (.slice xa4 S3.length xc4) (.slice ya4 D3.length yc4))).c2
  have l131 := ((B114.out.set3 (.bool false) (.slice xa4 S3.length xc4) (.slice ya4 D3.length yc4))).c0
  have l132 := ((B114.out.set3 (.bool false) (.slice xa4 S3.length xc4) (.slice ya4 D3.length yc4))).c1
  have l133 := ((B114.out.set3 (.bool false) (.slice xa4 S3.length xc4) (.slice ya4 D3.length yc4))).c2
  go_wp2_with fail
  obtain ⟨wo134, hwo134⟩ : ∃ wo134, wo134 = (((v7.setCell ⟨v5.heap.size, 0, none⟩ (.bool false)).setCell ⟨v5.heap.size, 1, none⟩ (.slice xa4 S3.length xc4)).setCell ⟨v5.heap.size, 2, none⟩ (.slice ya4 D3.length yc4)) := ⟨_, rfl⟩
  rw [← hwo134]
  have z135 : v7.heap.size ≤ wo134.heap.size := by rw [hwo134]; simp only [World.size_setCell]; omega
  have B136 : Hid (Abx wo134 (w.heap.size) (.bool c1) (.slice sa1 sz1.length sc1) (.slice da1 dz1.length dc1)) := by rw [hwo134]; exact (abx_o3 B112.out (B := v5.heap.size) (by omega) (.bool false) (.slice xa4 S3.length xc4) (.slice ya4 D3.length yc4))
  have B137 : Hid (Abx wo134 (v4.heap.size) (.bool false) (.slice xa3 S3.length xc3) (.slice ya3 D3.length yc3)) := by rw [hwo134]; exact (abx_o3 B113.out (B := v5.heap.size) (by omega) (.bool false) (.slice xa4 S3.length xc4) (.slice ya4 D3.length yc4))
  have B138 : Hid (Abx wo134 (v5.heap.size) (.bool false) (.slice xa4 S3.length xc4) (.slice ya4 D3.length yc4)) := by rw [hwo134]; exact (B114.out.set3 (.bool false) (.slice xa4 S3.length xc4) (.slice ya4 D3.length yc4))
  have L139 : Hid (MidC (wo71.heap.size) (v6.heap.size) wo134 (xa3) (S3) (xc3)) := by rw [hwo134]; exact (L117.out.s3 (b := v5.heap.size) (by omega) (.bool false) (.slice xa4 S3.length xc4) (.slice ya4 D3.length yc4))
  have L140 : Hid (MidC (wo71.heap.size) (v6.heap.size) wo134 (ya3) (D3) (yc3)) := by rw [hwo134]; exact (L118.out.s3 (b := v5.heap.size) (by omega) (.bool false) (.slice xa4 S3.length xc4) (.slice ya4 D3.length yc4))
  have L141 : Hid (MidC (wo101.heap.size) (v7.heap.size) wo134 (xa4) (S3) (xc4)) := by rw [hwo134]; exact (L120.out.s3 (b := v5.heap.size) (by omega) (.bool false) (.slice xa4 S3.length xc4) (.slice ya4 D3.length yc4))
  have L142 : Hid (MidC (wo101.heap.size) (v7.heap.size) wo134 (ya4) (D3) (yc4)) := by rw [hwo134]; exact (L121.out.s3 (b := v5.heap.size) (by omega) (.bool false) (.slice xa4 S3.length xc4) (.slice ya4 D3.length yc4))
  have hb143 : Hid (Below w.heap.size w wo134) := by rw [hwo134]; exact (bel_s3 hb119.out (B := v5.heap.size) (by omega) (.bool false) (.slice xa4 S3.length xc4) (.slice ya4 D3.length yc4))
  have zwo134 : w.heap.size ≤ wo134.heap.size := hb143.out.size
  clear hwo134 l122 l123 l124 l125 l126 l127 l128 l129 l130 l131 l132 l133 hb119 B112 B113 B114 L117 L118 L120 L121
  refine (alike_eq false xa3 xc3 S3 ya3 yc3 D3 xa4 xc4 S3 ya4 yc4 D3 rfl rfl (by omega) (by omega) _ (L139.out.is (by omega)) (L140.out.is (by omega)).1 (L141.out.is (by omega)) (L142.out.is (by omega)).1).mono ?_
  rintro e v8 ⟨rfl, hB⟩
  have z144 : wo134.heap.size ≤ v8.heap.size := hB.size
  have B145 : Hid (Abx v8 (w.heap.size) (.bool c1) (.slice sa1 sz1.length sc1) (.slice da1 dz1.length dc1)) := B136.out.go hB
  have B146 : Hid (Abx v8 (v4.heap.size) (.bool false) (.slice xa3 S3.length xc3) (.slice ya3 D3.length yc3)) := B137.out.go hB
  have B147 : Hid (Abx v8 (v5.heap.size) (.bool false) (.slice xa4 S3.length xc4) (.slice ya4 D3.length yc4)) := B138.out.go hB
  have L148 : Hid (MidC (wo71.heap.size) (v6.heap.size) v8 (xa3) (S3) (xc3)) := L139.out.go (by omega) hB
  have L149 : Hid (MidC (wo71.heap.size) (v6.heap.size) v8 (ya3) (D3) (yc3)) := L140.out.go (by omega) hB
  have L150 : Hid (MidC (wo101.heap.size) (v7.heap.size) v8 (xa4) (S3) (xc4)) := L141.out.go (by omega) hB
  have L151 : Hid (MidC (wo101.heap.size) (v7.heap.size) v8 (ya4) (D3) (yc4)) := L142.out.go (by omega) hB
  have hb152 : Hid (Below w.heap.size w v8) := hb143.out.trans (hB.mono hb143.out.size)
  clear hB hb143 B136 B137 B138 L139 L140 L141 L142
  go_wp2_with fail
  go_ret
  exact ⟨rfl, hb152.out⟩
theorem faxes_walk (HRd : CRd) (f i j : Int) (hf : In64 f) (hi : In64 i) (hj : In64 j) (c1 : Bool) (sa1 : Option Addr) (sc1 : Nat) (sz1 : List Int) (da1 : Option Addr) (dc1 : Nat) (dz1 : List Int) (w : World) (hg : HasErr w) (w8 : IsArrD w sa1 sz1 sc1 da1 dz1 dc1) :
    Calls Tryd.prog 5 #[.int .i64 f, .int .i64 i, .int .i64 j, .agg #[.bool c1, .slice sa1 sz1.length sc1, .slice da1 dz1.length dc1]] w fun e w' => e = .returned (.bool true) ∧ Below w.heap.size w w' := by
  by_cases h1 : Mon f
  · by_cases h2 : i < 0
    · exact axes_low HRd f i j hf hi hj c1 sa1 sc1 sz1 da1 dc1 dz1 w hg w8 h1 h2
    · by_cases h3 : j ≤ i
      · exact axes_behind HRd f i j hf hi hj c1 sa1 sc1 sz1 da1 dc1 dz1 w hg w8 h1 h2 h3
      · by_cases h4 : rdE f j c1 sz1 dz1 = 0
        · by_cases h5 : rdE f i c1 sz1 dz1 = 0
          · by_cases h6 : errOf (xout i.toNat (xout j.toNat sz1)) = 0
            · exact axes_ok HRd f i j hf hi hj c1 sa1 sc1 sz1 da1 dc1 dz1 w hg w8 h1 h2 h3 h4 h5 h6
            · exact axes_full HRd f i j hf hi hj c1 sa1 sc1 sz1 da1 dc1 dz1 w hg w8 h1 h2 h3 h4 h5 h6
          · exact axes_on HRd f i j hf hi hj c1 sa1 sc1 sz1 da1 dc1 dz1 w hg w8 h1 h2 h3 h4 h5
        · by_cases h5 : rdE f i c1 sz1 dz1 = 0
          · exact axes_no HRd f i j hf hi hj c1 sa1 sc1 sz1 da1 dc1 dz1 w hg w8 h1 h2 h3 h4 h5
          · exact axes_nn HRd f i j hf hi hj c1 sa1 sc1 sz1 da1 dc1 dz1 w hg w8 h1 h2 h3 h4 h5
  · exact axes_other HRd f i j hf hi hj c1 sa1 sc1 sz1 da1 dc1 dz1 w hg w8 h1
end Go.Proofs.YtmbgomljofngnacDoor
