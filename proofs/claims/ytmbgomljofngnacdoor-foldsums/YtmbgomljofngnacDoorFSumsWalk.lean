/-
  The walk of the statement FoldSums, given what the program tells.
-/
import Derived.BigQuiet
import Derived.Test.YtmbgomljofngnacDoorFldx
import Derived.Test.YtmbgomljofngnacDoorMidc
import Derived.Test.YtmbgomljofngnacDoorSarr
import Derived.Test.YtmbgomljofngnacDoorErr
namespace Go.Proofs.YtmbgomljofngnacDoor
open Go.RowKit
set_option linter.unusedVariables false

set_option maxRecDepth 100000 in
set_option maxHeartbeats 8000000 in
theorem sums_flaw (HSc : CSc) (HWd : CWd) (c1 : Bool) (sa1 : Option Addr) (sc1 : Nat) (sz1 : List Int) (da1 : Option Addr) (dc1 : Nat) (dz1 : List Int) (n : Int) (hn : In64 n) (w : World) (hg : HasErr w) (w8 : IsArrD w sa1 sz1 sc1 da1 dz1 dc1) (F1 : Hid (flawE c1 sz1 dz1 ≠ 0)) :
    Calls Tryd.prog 4 #[.agg #[.bool c1, .slice sa1 sz1.length sc1, .slice da1 dz1.length dc1], .int .i64 n] w fun e w' => e = .returned (.bool true) ∧ Below w.heap.size w w' := by
  obtain ⟨x11, x12, x3, x4, s64, T⟩ := w8
  have HI1 : Hid (IsC w.heap.size w sa1 sz1 sc1 ∧ IsC w.heap.size w da1 dz1 dc1 ∧ (∀ j, In64 (nth sz1 j)) ∧ ∀ j, In64 (nth dz1 j)) := ⟨x3, x4, s64, T⟩
  clear x3 x4 T s64
  have HG : Hid (HasErr w) := hg
  clear hg
  have n1 := Abx.new w (.bool c1) (.slice sa1 sz1.length sc1) (.slice da1 dz1.length dc1)
  have n2 := lit_mid (w.alloc (.cells #[.bool c1, .slice sa1 sz1.length sc1, .slice da1 dz1.length dc1] 25)) 3 [1, 2, 3] 3 rfl
  simp only [World.size_alloc, List.map_cons, List.map_nil] at n2
  go_enter Tryd.func4, Tryd.ntmps4
  go_wp2_with fail
  obtain ⟨wo3, hwo3⟩ : ∃ wo3, wo3 = ((w.alloc (.cells #[.bool c1, .slice sa1 sz1.length sc1, .slice da1 dz1.length dc1] 25)).alloc (.cells #[.int .i64 1, .int .i64 2, .int .i64 3] 3)) := ⟨_, rfl⟩
  rw [← hwo3]
  have z4 : w.heap.size + 1 + 1 ≤ wo3.heap.size := by rw [hwo3]; simp only [World.size_alloc]; omega
  have B5 : Hid (Abx wo3 (w.heap.size) (.bool c1) (.slice sa1 sz1.length sc1) (.slice da1 dz1.length dc1)) := by rw [hwo3]; exact (n1.al (.cells #[.int .i64 1, .int .i64 2, .int .i64 3] 3))
  have L6 : Hid (MidC (w.heap.size + 1) (w.heap.size + 1 + 1) wo3 (some ⟨w.heap.size + 1, 0, none⟩) ([1, 2, 3]) (3)) := by rw [hwo3]; exact n2
  have hb7 : Hid (Below w.heap.size w wo3) := by rw [hwo3]; exact (((Below.refl w.heap.size w).alloc (by omega) (.cells #[.bool c1, .slice sa1 sz1.length sc1, .slice da1 dz1.length dc1] 25)).alloc (by simp only [World.size_alloc]; omega) (.cells #[.int .i64 1, .int .i64 2, .int .i64 3] 3))
  have zwo3 : w.heap.size ≤ wo3.heap.size := hb7.out.size
  clear hwo3 n1 n2
  refine (vec_c (some ⟨w.heap.size + 1, 0, none⟩) 3 [1, 2, 3] (by simp) _ (L6.out.is (by omega)).1).mono ?_
  rintro e v1 ⟨vap, vcp, gap, gcp, rfl, hVp, hGp, hB⟩
  have z8 : wo3.heap.size ≤ v1.heap.size := hB.size
  have B9 : Hid (Abx v1 (w.heap.size) (.bool c1) (.slice sa1 sz1.length sc1) (.slice da1 dz1.length dc1)) := B5.out.go hB
  have L10 : Hid (MidC (w.heap.size + 1) (w.heap.size + 1 + 1) v1 (some ⟨w.heap.size + 1, 0, none⟩) ([1, 2, 3]) (3)) := L6.out.go (by omega) hB
  have hb11 : Hid (Below w.heap.size w v1) := hb7.out.trans (hB.mono hb7.out.size)
  have L12 : Hid (MidC (wo3.heap.size) (v1.heap.size) v1 (vap) ([(3 : Int)]) (vcp)) := hVp.midc
  have L13 : Hid (MidC (wo3.heap.size) (v1.heap.size) v1 (gap) ([1, 2, 3]) (gcp)) := hGp.midc
  clear hB hb7 B5 L6 hVp hGp
  clear L10
  go_wp2_with fail
  refine (wdw_ok 1 2 0 false vap vcp [(3 : Int)] 1 rfl gap gcp [1, 2, 3] 3 rfl _ (by unfold In64; decide) (by unfold In64; decide) (by unfold In64; decide) (by decide) (by decide) (L12.out.is (by omega)) (L13.out.is (by omega)).1 (lit12 (by decide)) [2] [3, 5] HWd (by show wdE 1 2 0 false [(3 : Int)] [1, 2, 3] = 0 ∧ wdS 2 (0 : Int).toNat [(3 : Int)] = [2] ∧ wdD 1 2 [(3 : Int)] [1, 2, 3] (0 : Int).toNat = [3, 5]; decide +kernel)).mono ?_
  rintro e v2 ⟨f1, g1, f2, g2, rfl, hX0, hY0, hB⟩
  have z14 : v1.heap.size ≤ v2.heap.size := hB.size
  have B15 : Hid (Abx v2 (w.heap.size) (.bool c1) (.slice sa1 sz1.length sc1) (.slice da1 dz1.length dc1)) := B9.out.go hB
  have L16 : Hid (MidC (wo3.heap.size) (v1.heap.size) v2 (vap) ([(3 : Int)]) (vcp)) := L12.out.go (by omega) hB
  have L17 : Hid (MidC (wo3.heap.size) (v1.heap.size) v2 (gap) ([1, 2, 3]) (gcp)) := L13.out.go (by omega) hB
  have hb18 : Hid (Below w.heap.size w v2) := hb11.out.trans (hB.mono hb11.out.size)
  have L19 : Hid (MidC (v1.heap.size) (v2.heap.size) v2 (f1) ([2]) (g1)) := hX0.midc
  have L20 : Hid (MidC (v1.heap.size) (v2.heap.size) v2 (f2) ([3, 5]) (g2)) := hY0.midc
  clear hB hb11 B9 L12 L13 hX0 hY0
  clear L16 L17
  have n21 := Abx.new v2 (.bool false) (.slice f1 1 g1) (.slice f2 2 g2)
  have l22 := (n21).c0
  have l23 := (n21).c1
  have l24 := (n21).c2
  have n25 := lit_mid (v2.alloc (.cells #[.bool false, .slice f1 1 g1, .slice f2 2 g2] 25)) 3 [3, 5] 2 rfl
  simp only [World.size_alloc, List.map_cons, List.map_nil] at n25
  go_wp2_with fail
  obtain ⟨wo26, hwo26⟩ : ∃ wo26, wo26 = ((v2.alloc (.cells #[.bool false, .slice f1 1 g1, .slice f2 2 g2] 25)).alloc (.cells #[.int .i64 3, .int .i64 5] 3)) := ⟨_, rfl⟩
  rw [← hwo26]
  have z27 : v2.heap.size + 1 + 1 ≤ wo26.heap.size := by rw [hwo26]; simp only [World.size_alloc]; omega
  have B28 : Hid (Abx wo26 (w.heap.size) (.bool c1) (.slice sa1 sz1.length sc1) (.slice da1 dz1.length dc1)) := by rw [hwo26]; exact ((B15.out.al (.cells #[.bool false, .slice f1 1 g1, .slice f2 2 g2] 25)).al (.cells #[.int .i64 3, .int .i64 5] 3))
  have B29 : Hid (Abx wo26 (v2.heap.size) (.bool false) (.slice f1 1 g1) (.slice f2 2 g2)) := by rw [hwo26]; exact (n21.al (.cells #[.int .i64 3, .int .i64 5] 3))
  have L30 : Hid (MidC (v1.heap.size) (v2.heap.size) wo26 (f1) ([2]) (g1)) := by rw [hwo26]; exact ((L19.out.al (by omega) (.cells #[.bool false, .slice f1 1 g1, .slice f2 2 g2] 25)).al (by simp only [World.size_alloc]; omega) (.cells #[.int .i64 3, .int .i64 5] 3))
  have L31 : Hid (MidC (v1.heap.size) (v2.heap.size) wo26 (f2) ([3, 5]) (g2)) := by rw [hwo26]; exact ((L20.out.al (by omega) (.cells #[.bool false, .slice f1 1 g1, .slice f2 2 g2] 25)).al (by simp only [World.size_alloc]; omega) (.cells #[.int .i64 3, .int .i64 5] 3))
  have L32 : Hid (MidC (v2.heap.size + 1) (v2.heap.size + 1 + 1) wo26 (some ⟨v2.heap.size + 1, 0, none⟩) ([3, 5]) (2)) := by rw [hwo26]; exact n25
  have hb33 : Hid (Below w.heap.size w wo26) := by rw [hwo26]; exact ((hb18.out.alloc (by omega) (.cells #[.bool false, .slice f1 1 g1, .slice f2 2 g2] 25)).alloc (by simp only [World.size_alloc]; omega) (.cells #[.int .i64 3, .int .i64 5] 3))
  have zwo26 : w.heap.size ≤ wo26.heap.size := hb33.out.size
  clear hwo26 n21 l22 l23 l24 n25 hb18 B15 L19 L20
  refine (ints_any f2 g2 [3, 5] (some ⟨v2.heap.size + 1, 0, none⟩) 2 [3, 5] (by simp) _ _ (L31.out.is (by omega)).1 (L32.out.is (by omega)).1).mono ?_
  rintro e v3 ⟨rfl, hB⟩
  have z34 : wo26.heap.size ≤ v3.heap.size := hB.size
  have B35 : Hid (Abx v3 (w.heap.size) (.bool c1) (.slice sa1 sz1.length sc1) (.slice da1 dz1.length dc1)) := B28.out.go hB
  have B36 : Hid (Abx v3 (v2.heap.size) (.bool false) (.slice f1 1 g1) (.slice f2 2 g2)) := B29.out.go hB
  have L37 : Hid (MidC (v1.heap.size) (v2.heap.size) v3 (f1) ([2]) (g1)) := L30.out.go (by omega) hB
  have L38 : Hid (MidC (v1.heap.size) (v2.heap.size) v3 (f2) ([3, 5]) (g2)) := L31.out.go (by omega) hB
  have L39 : Hid (MidC (v2.heap.size + 1) (v2.heap.size + 1 + 1) v3 (some ⟨v2.heap.size + 1, 0, none⟩) ([3, 5]) (2)) := L32.out.go (by omega) hB
  have hb40 : Hid (Below w.heap.size w v3) := hb33.out.trans (hB.mono hb33.out.size)
  clear hB hb33 B28 B29 L30 L31 L32
  rw [eqB_true rfl]
  clear L37 L38 L39 B36
  have l41 := (B35.out).c0
  have l42 := (B35.out).c1
  have l43 := (B35.out).c2
  go_wp2_with fail
  clear l41 l42 l43
  refine (check_no c1 sa1 sc1 sz1 da1 dc1 dz1 x11 x12 _ ((HI1.out.1.1.below hb40.out).mono hb40.out.size) ((HI1.out.2.1.1.below hb40.out).mono hb40.out.size) F1.out).mono ?_
  rintro e v4 ⟨rfl, hB⟩
  have z44 : v3.heap.size ≤ v4.heap.size := hB.size
  have B45 : Hid (Abx v4 (w.heap.size) (.bool c1) (.slice sa1 sz1.length sc1) (.slice da1 dz1.length dc1)) := B35.out.go hB
  have hb46 : Hid (Below w.heap.size w v4) := hb40.out.trans (hB.mono hb40.out.size)
  clear hB hb40 B35
  go_wp2_with fail
  go_ret
  exact ⟨rfl, hb46.out⟩
set_option maxRecDepth 100000 in
set_option maxHeartbeats 8000000 in
theorem sums_char (HSc : CSc) (HWd : CWd) (c1 : Bool) (sa1 : Option Addr) (sc1 : Nat) (sz1 : List Int) (da1 : Option Addr) (dc1 : Nat) (dz1 : List Int) (n : Int) (hn : In64 n) (w : World) (hg : HasErr w) (w8 : IsArrD w sa1 sz1 sc1 da1 dz1 dc1) (F1 : Hid (flawE c1 sz1 dz1 = 0)) (hc : c1 = true) :
    Calls Tryd.prog 4 #[.agg #[.bool c1, .slice sa1 sz1.length sc1, .slice da1 dz1.length dc1], .int .i64 n] w fun e w' => e = .returned (.bool true) ∧ Below w.heap.size w w' := by
  subst hc
  obtain ⟨x11, x12, x3, x4, s64, T⟩ := w8
  have HI1 : Hid (IsC w.heap.size w sa1 sz1 sc1 ∧ IsC w.heap.size w da1 dz1 dc1 ∧ (∀ j, In64 (nth sz1 j)) ∧ ∀ j, In64 (nth dz1 j)) := ⟨x3, x4, s64, T⟩
  clear x3 x4 T s64
  have HG : Hid (HasErr w) := hg
  clear hg
  have n1 := Abx.new w (.bool true) (.slice sa1 sz1.length sc1) (.slice da1 dz1.length dc1)
  have n2 := lit_mid (w.alloc (.cells #[.bool true, .slice sa1 sz1.length sc1, .slice da1 dz1.length dc1] 25)) 3 [1, 2, 3] 3 rfl
  simp only [World.size_alloc, List.map_cons, List.map_nil] at n2
  go_enter Tryd.func4, Tryd.ntmps4
  go_wp2_with fail
  obtain ⟨wo3, hwo3⟩ : ∃ wo3, wo3 = ((w.alloc (.cells #[.bool true, .slice sa1 sz1.length sc1, .slice da1 dz1.length dc1] 25)).alloc (.cells #[.int .i64 1, .int .i64 2, .int .i64 3] 3)) := ⟨_, rfl⟩
  rw [← hwo3]
  have z4 : w.heap.size + 1 + 1 ≤ wo3.heap.size := by rw [hwo3]; simp only [World.size_alloc]; omega
  have B5 : Hid (Abx wo3 (w.heap.size) (.bool true) (.slice sa1 sz1.length sc1) (.slice da1 dz1.length dc1)) := by rw [hwo3]; exact (n1.al (.cells #[.int .i64 1, .int .i64 2, .int .i64 3] 3))
  have L6 : Hid (MidC (w.heap.size + 1) (w.heap.size + 1 + 1) wo3 (some ⟨w.heap.size + 1, 0, none⟩) ([1, 2, 3]) (3)) := by rw [hwo3]; exact n2
  have hb7 : Hid (Below w.heap.size w wo3) := by rw [hwo3]; exact (((Below.refl w.heap.size w).alloc (by omega) (.cells #[.bool true, .slice sa1 sz1.length sc1, .slice da1 dz1.length dc1] 25)).alloc (by simp only [World.size_alloc]; omega) (.cells #[.int .i64 1, .int .i64 2, .int .i64 3] 3))
  have zwo3 : w.heap.size ≤ wo3.heap.size := hb7.out.size
  clear hwo3 n1 n2
  refine (vec_c (some ⟨w.heap.size + 1, 0, none⟩) 3 [1, 2, 3] (by simp) _ (L6.out.is (by omega)).1).mono ?_
  rintro e v1 ⟨vap, vcp, gap, gcp, rfl, hVp, hGp, hB⟩
  have z8 : wo3.heap.size ≤ v1.heap.size := hB.size
  have B9 : Hid (Abx v1 (w.heap.size) (.bool true) (.slice sa1 sz1.length sc1) (.slice da1 dz1.length dc1)) := B5.out.go hB
  have L10 : Hid (MidC (w.heap.size + 1) (w.heap.size + 1 + 1) v1 (some ⟨w.heap.size + 1, 0, none⟩) ([1, 2, 3]) (3)) := L6.out.go (by omega) hB
  have hb11 : Hid (Below w.heap.size w v1) := hb7.out.trans (hB.mono hb7.out.size)
  have L12 : Hid (MidC (wo3.heap.size) (v1.heap.size) v1 (vap) ([(3 : Int)]) (vcp)) := hVp.midc
  have L13 : Hid (MidC (wo3.heap.size) (v1.heap.size) v1 (gap) ([1, 2, 3]) (gcp)) := hGp.midc
  clear hB hb7 B5 L6 hVp hGp
  clear L10
  go_wp2_with fail
  refine (wdw_ok 1 2 0 false vap vcp [(3 : Int)] 1 rfl gap gcp [1, 2, 3] 3 rfl _ (by unfold In64; decide) (by unfold In64; decide) (by unfold In64; decide) (by decide) (by decide) (L12.out.is (by omega)) (L13.out.is (by omega)).1 (lit12 (by decide)) [2] [3, 5] HWd (by show wdE 1 2 0 false [(3 : Int)] [1, 2, 3] = 0 ∧ wdS 2 (0 : Int).toNat [(3 : Int)] = [2] ∧ wdD 1 2 [(3 : Int)] [1, 2, 3] (0 : Int).toNat = [3, 5]; decide +kernel)).mono ?_
  rintro e v2 ⟨f1, g1, f2, g2, rfl, hX0, hY0, hB⟩
  have z14 : v1.heap.size ≤ v2.heap.size := hB.size
  have B15 : Hid (Abx v2 (w.heap.size) (.bool true) (.slice sa1 sz1.length sc1) (.slice da1 dz1.length dc1)) := B9.out.go hB
  have L16 : Hid (MidC (wo3.heap.size) (v1.heap.size) v2 (vap) ([(3 : Int)]) (vcp)) := L12.out.go (by omega) hB
  have L17 : Hid (MidC (wo3.heap.size) (v1.heap.size) v2 (gap) ([1, 2, 3]) (gcp)) := L13.out.go (by omega) hB
  have hb18 : Hid (Below w.heap.size w v2) := hb11.out.trans (hB.mono hb11.out.size)
  have L19 : Hid (MidC (v1.heap.size) (v2.heap.size) v2 (f1) ([2]) (g1)) := hX0.midc
  have L20 : Hid (MidC (v1.heap.size) (v2.heap.size) v2 (f2) ([3, 5]) (g2)) := hY0.midc
  clear hB hb11 B9 L12 L13 hX0 hY0
  clear L16 L17
  have n21 := Abx.new v2 (.bool false) (.slice f1 1 g1) (.slice f2 2 g2)
  have l22 := (n21).c0
  have l23 := (n21).c1
  have l24 := (n21).c2
  have n25 := lit_mid (v2.alloc (.cells #[.bool false, .slice f1 1 g1, .slice f2 2 g2] 25)) 3 [3, 5] 2 rfl
  simp only [World.size_alloc, List.map_cons, List.map_nil] at n25
  go_wp2_with fail
  obtain ⟨wo26, hwo26⟩ : ∃ wo26, wo26 = ((v2.alloc (.cells #[.bool false, .slice f1 1 g1, .slice f2 2 g2] 25)).alloc (.cells #[.int .i64 3, .int .i64 5] 3)) := ⟨_, rfl⟩
  rw [← hwo26]
  have z27 : v2.heap.size + 1 + 1 ≤ wo26.heap.size := by rw [hwo26]; simp only [World.size_alloc]; omega
  have B28 : Hid (Abx wo26 (w.heap.size) (.bool true) (.slice sa1 sz1.length sc1) (.slice da1 dz1.length dc1)) := by rw [hwo26]; exact ((B15.out.al (.cells #[.bool false, .slice f1 1 g1, .slice f2 2 g2] 25)).al (.cells #[.int .i64 3, .int .i64 5] 3))
  have B29 : Hid (Abx wo26 (v2.heap.size) (.bool false) (.slice f1 1 g1) (.slice f2 2 g2)) := by rw [hwo26]; exact (n21.al (.cells #[.int .i64 3, .int .i64 5] 3))
  have L30 : Hid (MidC (v1.heap.size) (v2.heap.size) wo26 (f1) ([2]) (g1)) := by rw [hwo26]; exact ((L19.out.al (by omega) (.cells #[.bool false, .slice f1 1 g1, .slice f2 2 g2] 25)).al (by simp only [World.size_alloc]; omega) (.cells #[.int .i64 3, .int .i64 5] 3))
  have L31 : Hid (MidC (v1.heap.size) (v2.heap.size) wo26 (f2) ([3, 5]) (g2)) := by rw [hwo26]; exact ((L20.out.al (by omega) (.cells #[.bool false, .slice f1 1 g1, .slice f2 2 g2] 25)).al (by simp only [World.size_alloc]; omega) (.cells #[.int .i64 3, .int .i64 5] 3))
  have L32 : Hid (MidC (v2.heap.size + 1) (v2.heap.size + 1 + 1) wo26 (some ⟨v2.heap.size + 1, 0, none⟩) ([3, 5]) (2)) := by rw [hwo26]; exact n25
  have hb33 : Hid (Below w.heap.size w wo26) := by rw [hwo26]; exact ((hb18.out.alloc (by omega) (.cells #[.bool false, .slice f1 1 g1, .slice f2 2 g2] 25)).alloc (by simp only [World.size_alloc]; omega) (.cells #[.int .i64 3, .int .i64 5] 3))
  have zwo26 : w.heap.size ≤ wo26.heap.size := hb33.out.size
  clear hwo26 n21 l22 l23 l24 n25 hb18 B15 L19 L20
  refine (ints_any f2 g2 [3, 5] (some ⟨v2.heap.size + 1, 0, none⟩) 2 [3, 5] (by simp) _ _ (L31.out.is (by omega)).1 (L32.out.is (by omega)).1).mono ?_
  rintro e v3 ⟨rfl, hB⟩
  have z34 : wo26.heap.size ≤ v3.heap.size := hB.size
  have B35 : Hid (Abx v3 (w.heap.size) (.bool true) (.slice sa1 sz1.length sc1) (.slice da1 dz1.length dc1)) := B28.out.go hB
  have B36 : Hid (Abx v3 (v2.heap.size) (.bool false) (.slice f1 1 g1) (.slice f2 2 g2)) := B29.out.go hB
  have L37 : Hid (MidC (v1.heap.size) (v2.heap.size) v3 (f1) ([2]) (g1)) := L30.out.go (by omega) hB
  have L38 : Hid (MidC (v1.heap.size) (v2.heap.size) v3 (f2) ([3, 5]) (g2)) := L31.out.go (by omega) hB
  have L39 : Hid (MidC (v2.heap.size + 1) (v2.heap.size + 1 + 1) v3 (some ⟨v2.heap.size + 1, 0, none⟩) ([3, 5]) (2)) := L32.out.go (by omega) hB
  have hb40 : Hid (Below w.heap.size w v3) := hb33.out.trans (hB.mono hb33.out.size)
  clear hB hb33 B28 B29 L30 L31 L32
  rw [eqB_true rfl]
  clear L37 L38 L39 B36
  have l41 := (B35.out).c0
  have l42 := (B35.out).c1
  have l43 := (B35.out).c2
  go_wp2_with fail
  clear l41 l42 l43
  refine (check_ok true sa1 sc1 sz1 da1 dc1 dz1 x11 x12 _ ((HI1.out.1.1.below hb40.out).mono hb40.out.size) ((HI1.out.2.1.1.below hb40.out).mono hb40.out.size) F1.out).mono ?_
  rintro e v4 ⟨rfl, hB⟩
  have z44 : v3.heap.size ≤ v4.heap.size := hB.size
  have B45 : Hid (Abx v4 (w.heap.size) (.bool true) (.slice sa1 sz1.length sc1) (.slice da1 dz1.length dc1)) := B35.out.go hB
  have hb46 : Hid (Below w.heap.size w v4) := hb40.out.trans (hB.mono hb40.out.size)
  clear hB hb40 B35
  have l0 := B45.out.c0
  go_wp2_with fail
  go_ret
  exact ⟨rfl, hb46.out⟩
set_option maxRecDepth 100000 in
set_option maxHeartbeats 8000000 in
theorem sums_rank (HSc : CSc) (HWd : CWd) (c1 : Bool) (sa1 : Option Addr) (sc1 : Nat) (sz1 : List Int) (da1 : Option Addr) (dc1 : Nat) (dz1 : List Int) (n : Int) (hn : In64 n) (w : World) (hg : HasErr w) (w8 : IsArrD w sa1 sz1 sc1 da1 dz1 dc1) (F1 : Hid (flawE c1 sz1 dz1 = 0)) (hc : c1 = false) (F2 : Hid (sz1.length ≠ 1)) :
    Calls Tryd.prog 4 #[.agg #[.bool c1, .slice sa1 sz1.length sc1, .slice da1 dz1.length dc1], .int .i64 n] w fun e w' => e = .returned (.bool true) ∧ Below w.heap.size w w' := by
  subst hc
  have t1 : ((sz1.length : Int) != 1) = true := by have := F2.out; simp; omega
  obtain ⟨x11, x12, x3, x4, s64, T⟩ := w8
  have HI1 : Hid (IsC w.heap.size w sa1 sz1 sc1 ∧ IsC w.heap.size w da1 dz1 dc1 ∧ (∀ j, In64 (nth sz1 j)) ∧ ∀ j, In64 (nth dz1 j)) := ⟨x3, x4, s64, T⟩
  clear x3 x4 T s64
  have HG : Hid (HasErr w) := hg
  clear hg
  have n1 := Abx.new w (.bool false) (.slice sa1 sz1.length sc1) (.slice da1 dz1.length dc1)
  have n2 := lit_mid (w.alloc (.cells #[.bool false, .slice sa1 sz1.length sc1, .slice da1 dz1.length dc1] 25)) 3 [1, 2, 3] 3 rfl
  simp only [World.size_alloc, List.map_cons, List.map_nil] at n2
  go_enter Tryd.func4, Tryd.ntmps4
  go_wp2_with fail
  obtain ⟨wo3, hwo3⟩ : ∃ wo3, wo3 = ((w.alloc (.cells #[.bool false, .slice sa1 sz1.length sc1, .slice da1 dz1.length dc1] 25)).alloc (.cells #[.int .i64 1, .int .i64 2, .int .i64 3] 3)) := ⟨_, rfl⟩
  rw [← hwo3]
  have z4 : w.heap.size + 1 + 1 ≤ wo3.heap.size := by rw [hwo3]; simp only [World.size_alloc]; omega
  have B5 : Hid (Abx wo3 (w.heap.size) (.bool false) (.slice sa1 sz1.length sc1) (.slice da1 dz1.length dc1)) := by rw [hwo3]; exact (n1.al (.cells #[.int .i64 1, .int .i64 2, .int .i64 3] 3))
  have L6 : Hid (MidC (w.heap.size + 1) (w.heap.size + 1 + 1) wo3 (some ⟨w.heap.size + 1, 0, none⟩) ([1, 2, 3]) (3)) := by rw [hwo3]; exact n2
  have hb7 : Hid (Below w.heap.size w wo3) := by rw [hwo3]; exact (((Below.refl w.heap.size w).alloc (by omega) (.cells #[.bool false, .slice sa1 sz1.length sc1, .slice da1 dz1.length dc1] 25)).alloc (by simp only [World.size_alloc]; omega) (.cells #[.int .i64 1, .int .i64 2, .int .i64 3] 3))
  have zwo3 : w.heap.size ≤ wo3.heap.size := hb7.out.size
  clear hwo3 n1 n2
  refine (vec_c (some ⟨w.heap.size + 1, 0, none⟩) 3 [1, 2, 3] (by simp) _ (L6.out.is (by omega)).1).mono ?_
  rintro e v1 ⟨vap, vcp, gap, gcp, rfl, hVp, hGp, hB⟩
  have z8 : wo3.heap.size ≤ v1.heap.size := hB.size
  have B9 : Hid (Abx v1 (w.heap.size) (.bool false) (.slice sa1 sz1.length sc1) (.slice da1 dz1.length dc1)) := B5.out.go hB
  have L10 : Hid (MidC (w.heap.size + 1) (w.heap.size + 1 + 1) v1 (some ⟨w.heap.size + 1, 0, none⟩) ([1, 2, 3]) (3)) := L6.out.go (by omega) hB
  have hb11 : Hid (Below w.heap.size w v1) := hb7.out.trans (hB.mono hb7.out.size)
  have L12 : Hid (MidC (wo3.heap.size) (v1.heap.size) v1 (vap) ([(3 : Int)]) (vcp)) := hVp.midc
  have L13 : Hid (MidC (wo3.heap.size) (v1.heap.size) v1 (gap) ([1, 2, 3]) (gcp)) := hGp.midc
  clear hB hb7 B5 L6 hVp hGp
  clear L10
  go_wp2_with fail
  refine (wdw_ok 1 2 0 false vap vcp [(3 : Int)] 1 rfl gap gcp [1, 2, 3] 3 rfl _ (by unfold In64; decide) (by unfold In64; decide) (by unfold In64; decide) (by decide) (by decide) (L12.out.is (by omega)) (L13.out.is (by omega)).1 (lit12 (by decide)) [2] [3, 5] HWd (by show wdE 1 2 0 false [(3 : Int)] [1, 2, 3] = 0 ∧ wdS 2 (0 : Int).toNat [(3 : Int)] = [2] ∧ wdD 1 2 [(3 : Int)] [1, 2, 3] (0 : Int).toNat = [3, 5]; decide +kernel)).mono ?_
  rintro e v2 ⟨f1, g1, f2, g2, rfl, hX0, hY0, hB⟩
  have z14 : v1.heap.size ≤ v2.heap.size := hB.size
  have B15 : Hid (Abx v2 (w.heap.size) (.bool false) (.slice sa1 sz1.length sc1) (.slice da1 dz1.length dc1)) := B9.out.go hB
  have L16 : Hid (MidC (wo3.heap.size) (v1.heap.size) v2 (vap) ([(3 : Int)]) (vcp)) := L12.out.go (by omega) hB
  have L17 : Hid (MidC (wo3.heap.size) (v1.heap.size) v2 (gap) ([1, 2, 3]) (gcp)) := L13.out.go (by omega) hB
  have hb18 : Hid (Below w.heap.size w v2) := hb11.out.trans (hB.mono hb11.out.size)
  have L19 : Hid (MidC (v1.heap.size) (v2.heap.size) v2 (f1) ([2]) (g1)) := hX0.midc
  have L20 : Hid (MidC (v1.heap.size) (v2.heap.size) v2 (f2) ([3, 5]) (g2)) := hY0.midc
  clear hB hb11 B9 L12 L13 hX0 hY0
  clear L16 L17
  have n21 := Abx.new v2 (.bool false) (.slice f1 1 g1) (.slice f2 2 g2)
  have l22 := (n21).c0
  have l23 := (n21).c1
  have l24 := (n21).c2
  have n25 := lit_mid (v2.alloc (.cells #[.bool false, .slice f1 1 g1, .slice f2 2 g2] 25)) 3 [3, 5] 2 rfl
  simp only [World.size_alloc, List.map_cons, List.map_nil] at n25
  go_wp2_with fail
  obtain ⟨wo26, hwo26⟩ : ∃ wo26, wo26 = ((v2.alloc (.cells #[.bool false, .slice f1 1 g1, .slice f2 2 g2] 25)).alloc (.cells #[.int .i64 3, .int .i64 5] 3)) := ⟨_, rfl⟩
  rw [← hwo26]
  have z27 : v2.heap.size + 1 + 1 ≤ wo26.heap.size := by rw [hwo26]; simp only [World.size_alloc]; omega
  have B28 : Hid (Abx wo26 (w.heap.size) (.bool false) (.slice sa1 sz1.length sc1) (.slice da1 dz1.length dc1)) := by rw [hwo26]; exact ((B15.out.al (.cells #[.bool false, .slice f1 1 g1, .slice f2 2 g2] 25)).al (.cells #[.int .i64 3, .int .i64 5] 3))
  have B29 : Hid (Abx wo26 (v2.heap.size) (.bool false) (.slice f1 1 g1) (.slice f2 2 g2)) := by rw [hwo26]; exact (n21.al (.cells #[.int .i64 3, .int .i64 5] 3))
  have L30 : Hid (MidC (v1.heap.size) (v2.heap.size) wo26 (f1) ([2]) (g1)) := by rw [hwo26]; exact ((L19.out.al (by omega) (.cells #[.bool false, .slice f1 1 g1, .slice f2 2 g2] 25)).al (by simp only [World.size_alloc]; omega) (.cells #[.int .i64 3, .int .i64 5] 3))
  have L31 : Hid (MidC (v1.heap.size) (v2.heap.size) wo26 (f2) ([3, 5]) (g2)) := by rw [hwo26]; exact ((L20.out.al (by omega) (.cells #[.bool false, .slice f1 1 g1, .slice f2 2 g2] 25)).al (by simp only [World.size_alloc]; omega) (.cells #[.int .i64 3, .int .i64 5] 3))
  have L32 : Hid (MidC (v2.heap.size + 1) (v2.heap.size + 1 + 1) wo26 (some ⟨v2.heap.size + 1, 0, none⟩) ([3, 5]) (2)) := by rw [hwo26]; exact n25
  have hb33 : Hid (Below w.heap.size w wo26) := by rw [hwo26]; exact ((hb18.out.alloc (by omega) (.cells #[.bool false, .slice f1 1 g1, .slice f2 2 g2] 25)).alloc (by simp only [World.size_alloc]; omega) (.cells #[.int .i64 3, .int .i64 5] 3))
  have zwo26 : w.heap.size ≤ wo26.heap.size := hb33.out.size
  clear hwo26 n21 l22 l23 l24 n25 hb18 B15 L19 L20
  refine (ints_any f2 g2 [3, 5] (some ⟨v2.heap.size + 1, 0, none⟩) 2 [3, 5] (by simp) _ _ (L31.out.is (by omega)).1 (L32.out.is (by omega)).1).mono ?_
  rintro e v3 ⟨rfl, hB⟩
  have z34 : wo26.heap.size ≤ v3.heap.size := hB.size
  have B35 : Hid (Abx v3 (w.heap.size) (.bool false) (.slice sa1 sz1.length sc1) (.slice da1 dz1.length dc1)) := B28.out.go hB
  have B36 : Hid (Abx v3 (v2.heap.size) (.bool false) (.slice f1 1 g1) (.slice f2 2 g2)) := B29.out.go hB
  have L37 : Hid (MidC (v1.heap.size) (v2.heap.size) v3 (f1) ([2]) (g1)) := L30.out.go (by omega) hB
  have L38 : Hid (MidC (v1.heap.size) (v2.heap.size) v3 (f2) ([3, 5]) (g2)) := L31.out.go (by omega) hB
  have L39 : Hid (MidC (v2.heap.size + 1) (v2.heap.size + 1 + 1) v3 (some ⟨v2.heap.size + 1, 0, none⟩) ([3, 5]) (2)) := L32.out.go (by omega) hB
  have hb40 : Hid (Below w.heap.size w v3) := hb33.out.trans (hB.mono hb33.out.size)
  clear hB hb33 B28 B29 L30 L31 L32
  rw [eqB_true rfl]
  clear L37 L38 L39 B36
  have l41 := (B35.out).c0
  have l42 := (B35.out).c1
  have l43 := (B35.out).c2
  go_wp2_with fail
  clear l41 l42 l43
  refine (check_ok false sa1 sc1 sz1 da1 dc1 dz1 x11 x12 _ ((HI1.out.1.1.below hb40.out).mono hb40.out.size) ((HI1.out.2.1.1.below hb40.out).mono hb40.out.size) F1.out).mono ?_
  rintro e v4 ⟨rfl, hB⟩
  have z44 : v3.heap.size ≤ v4.heap.size := hB.size
  have B45 : Hid (Abx v4 (w.heap.size) (.bool false) (.slice sa1 sz1.length sc1) (.slice da1 dz1.length dc1)) := B35.out.go hB
  have hb46 : Hid (Below w.heap.size w v4) := hb40.out.trans (hB.mono hb40.out.size)
  clear hB hb40 B35
  have l0 := B45.out.c0
  have l1 := B45.out.c1
  go_wp2_with fail
  go_ret
  exact ⟨rfl, hb46.out⟩
set_option maxRecDepth 100000 in
set_option maxHeartbeats 8000000 in
theorem sums_bad (HSc : CSc) (HWd : CWd) (c1 : Bool) (sa1 : Option Addr) (sc1 : Nat) (sz1 : List Int) (da1 : Option Addr) (dc1 : Nat) (dz1 : List Int) (n : Int) (hn : In64 n) (w : World) (hg : HasErr w) (w8 : IsArrD w sa1 sz1 sc1 da1 dz1 dc1) (F1 : Hid (flawE c1 sz1 dz1 = 0)) (hc : c1 = false) (F2 : Hid (sz1.length = 1)) (F3 : Hid (n < 1 ∨ (dz1.length : Int) < n)) :
    Calls Tryd.prog 4 #[.agg #[.bool c1, .slice sa1 sz1.length sc1, .slice da1 dz1.length dc1], .int .i64 n] w fun e w' => e = .returned (.bool true) ∧ Below w.heap.size w w' := by
  subst hc
  obtain ⟨M, hMs, hM⟩ := one_axis F1.out F2.out
  have HSz : Hid (sz1 = [(M : Int)] ∧ M = dz1.length ∧ flawE false [(M : Int)] dz1 = 0) := ⟨hMs, hM, by rw [← hMs]; exact F1.out⟩
  have T1 := w8.2.2.2.2.2
  have hM4 : dz1.length ≤ 4096 := (flawE_short F1.out).2
  have t1 : ((sz1.length : Int) != 1) = false := by rw [F2.out]; rfl
  clear hMs hM
  obtain ⟨D, hD⟩ : ∃ D, D = scD 1 sz1 dz1 0 := ⟨_, rfl⟩
  have hz := HSz.out
  have he := (flawE_zero hz.2.2).1
  have hd : (dz1.length : Int) = (M : Int) := by rw [hz.2.1]
  have hln : D.length = dz1.length := by rw [hD, hz.1]; exact (sc_add he hd T1).1
  have HD1 : Hid (D = scD 1 [(M : Int)] dz1 0) := by show D = _; rw [hD, hz.1]
  have HS1 : Hid (scE 1 0 false sz1 dz1 = 0 ∧ scD 1 sz1 dz1 (0 : Int).toNat = D) := ⟨by rw [hz.1]; exact sc_vec_ok mon1 T1 hz.2.2, hD.symm⟩
  have HO : Hid (∀ i, i < dz1.length → wrap64 (nth D i - ahd1 D i) = nth dz1 i) := fun i hi => by rw [hD, hz.1]; exact sums_one he hd T1 hi
  have HTD : Hid (D.length = dz1.length) := hln
  have hD4 : D.length ≤ 4096 := by omega
  have ls1 : sz1.length ≤ 6 := (flawE_short F1.out).1
  have HW4 : Hid (wdE 1 n 0 false sz1 dz1 = 4 ∧ (4 : Int) ≠ 0) := ⟨by rw [hz.1, wd_vec_ok mon1 T1 hz.2.2, if_pos (by have := F3.out; omega)], by decide⟩
  have hF3 := F3.out
  clear T1 hD hz he hd hln
  obtain ⟨x11, x12, x3, x4, s64, T⟩ := w8
  have HI1 : Hid (IsC w.heap.size w sa1 sz1 sc1 ∧ IsC w.heap.size w da1 dz1 dc1 ∧ (∀ j, In64 (nth sz1 j)) ∧ ∀ j, In64 (nth dz1 j)) := ⟨x3, x4, s64, T⟩
  clear x3 x4 T s64
  have HG : Hid (HasErr w) := hg
  clear hg
  have n1 := Abx.new w (.bool false) (.slice sa1 sz1.length sc1) (.slice da1 dz1.length dc1)
  have n2 := lit_mid (w.alloc (.cells #[.bool false, .slice sa1 sz1.length sc1, .slice da1 dz1.length dc1] 25)) 3 [1, 2, 3] 3 rfl
  simp only [World.size_alloc, List.map_cons, List.map_nil] at n2
  go_enter Tryd.func4, Tryd.ntmps4
  go_wp2_with fail
  obtain ⟨wo3, hwo3⟩ : ∃ wo3, wo3 = ((w.alloc (.cells #[.bool false, .slice sa1 sz1.length sc1, .slice da1 dz1.length dc1] 25)).alloc (.cells #[.int .i64 1, .int .i64 2, .int .i64 3] 3)) := ⟨_, rfl⟩
  rw [← hwo3]
  have z4 : w.heap.size + 1 + 1 ≤ wo3.heap.size := by rw [hwo3]; simp only [World.size_alloc]; omega
  have B5 : Hid (Abx wo3 (w.heap.size) (.bool false) (.slice sa1 sz1.length sc1) (.slice da1 dz1.length dc1)) := by rw [hwo3]; exact (n1.al (.cells #[.int .i64 1, .int .i64 2, .int .i64 3] 3))
  have L6 : Hid (MidC (w.heap.size + 1) (w.heap.size + 1 + 1) wo3 (some ⟨w.heap.size + 1, 0, none⟩) ([1, 2, 3]) (3)) := by rw [hwo3]; exact n2
  have hb7 : Hid (Below w.heap.size w wo3) := by rw [hwo3]; exact (((Below.refl w.heap.size w).alloc (by omega) (.cells #[.bool false, .slice sa1 sz1.length sc1, .slice da1 dz1.length dc1] 25)).alloc (by simp only [World.size_alloc]; omega) (.cells #[.int .i64 1, .int .i64 2, .int .i64 3] 3))
  have zwo3 : w.heap.size ≤ wo3.heap.size := hb7.out.size
  clear hwo3 n1 n2
  refine (vec_c (some ⟨w.heap.size + 1, 0, none⟩) 3 [1, 2, 3] (by simp) _ (L6.out.is (by omega)).1).mono ?_
  rintro e v1 ⟨vap, vcp, gap, gcp, rfl, hVp, hGp, hB⟩
  have z8 : wo3.heap.size ≤ v1.heap.size := hB.size
  have B9 : Hid (Abx v1 (w.heap.size) (.bool false) (.slice sa1 sz1.length sc1) (.slice da1 dz1.length dc1)) := B5.out.go hB
  have L10 : Hid (MidC (w.heap.size + 1) (w.heap.size + 1 + 1) v1 (some ⟨w.heap.size + 1, 0, none⟩) ([1, 2, 3]) (3)) := L6.out.go (by omega) hB
  have hb11 : Hid (Below w.heap.size w v1) := hb7.out.trans (hB.mono hb7.out.size)
  have L12 : Hid (MidC (wo3.heap.size) (v1.heap.size) v1 (vap) ([(3 : Int)]) (vcp)) := hVp.midc
  have L13 : Hid (MidC (wo3.heap.size) (v1.heap.size) v1 (gap) ([1, 2, 3]) (gcp)) := hGp.midc
  clear hB hb7 B5 L6 hVp hGp
  clear L10
  go_wp2_with fail
  refine (wdw_ok 1 2 0 false vap vcp [(3 : Int)] 1 rfl gap gcp [1, 2, 3] 3 rfl _ (by unfold In64; decide) (by unfold In64; decide) (by unfold In64; decide) (by decide) (by decide) (L12.out.is (by omega)) (L13.out.is (by omega)).1 (lit12 (by decide)) [2] [3, 5] HWd (by show wdE 1 2 0 false [(3 : Int)] [1, 2, 3] = 0 ∧ wdS 2 (0 : Int).toNat [(3 : Int)] = [2] ∧ wdD 1 2 [(3 : Int)] [1, 2, 3] (0 : Int).toNat = [3, 5]; decide +kernel)).mono ?_
  rintro e v2 ⟨f1, g1, f2, g2, rfl, hX0, hY0, hB⟩
  have z14 : v1.heap.size ≤ v2.heap.size := hB.size
  have B15 : Hid (Abx v2 (w.heap.size) (.bool false) (.slice sa1 sz1.length sc1) (.slice da1 dz1.length dc1)) := B9.out.go hB
  have L16 : Hid (MidC (wo3.heap.size) (v1.heap.size) v2 (vap) ([(3 : Int)]) (vcp)) := L12.out.go (by omega) hB
  have L17 : Hid (MidC (wo3.heap.size) (v1.heap.size) v2 (gap) ([1, 2, 3]) (gcp)) := L13.out.go (by omega) hB
  have hb18 : Hid (Below w.heap.size w v2) := hb11.out.trans (hB.mono hb11.out.size)
  have L19 : Hid (MidC (v1.heap.size) (v2.heap.size) v2 (f1) ([2]) (g1)) := hX0.midc
  have L20 : Hid (MidC (v1.heap.size) (v2.heap.size) v2 (f2) ([3, 5]) (g2)) := hY0.midc
  clear hB hb11 B9 L12 L13 hX0 hY0
  clear L16 L17
  have n21 := Abx.new v2 (.bool false) (.slice f1 1 g1) (.slice f2 2 g2)
  have l22 := (n21).c0
  have l23 := (n21).c1
  have l24 := (n21).c2
  have n25 := lit_mid (v2.alloc (.cells #[.bool false, .slice f1 1 g1, .slice f2 2 g2] 25)) 3 [3, 5] 2 rfl
  simp only [World.size_alloc, List.map_cons, List.map_nil] at n25
  go_wp2_with fail
  obtain ⟨wo26, hwo26⟩ : ∃ wo26, wo26 = ((v2.alloc (.cells #[.bool false, .slice f1 1 g1, .slice f2 2 g2] 25)).alloc (.cells #[.int .i64 3, .int .i64 5] 3)) := ⟨_, rfl⟩
  rw [← hwo26]
  have z27 : v2.heap.size + 1 + 1 ≤ wo26.heap.size := by rw [hwo26]; simp only [World.size_alloc]; omega
  have B28 : Hid (Abx wo26 (w.heap.size) (.bool false) (.slice sa1 sz1.length sc1) (.slice da1 dz1.length dc1)) := by rw [hwo26]; exact ((B15.out.al (.cells #[.bool false, .slice f1 1 g1, .slice f2 2 g2] 25)).al (.cells #[.int .i64 3, .int .i64 5] 3))
  have B29 : Hid (Abx wo26 (v2.heap.size) (.bool false) (.slice f1 1 g1) (.slice f2 2 g2)) := by rw [hwo26]; exact (n21.al (.cells #[.int .i64 3, .int .i64 5] 3))
  have L30 : Hid (MidC (v1.heap.size) (v2.heap.size) wo26 (f1) ([2]) (g1)) := by rw [hwo26]; exact ((L19.out.al (by omega) (.cells #[.bool false, .slice f1 1 g1, .slice f2 2 g2] 25)).al (by simp only [World.size_alloc]; omega) (.cells #[.int .i64 3, .int .i64 5] 3))
  have L31 : Hid (MidC (v1.heap.size) (v2.heap.size) wo26 (f2) ([3, 5]) (g2)) := by rw [hwo26]; exact ((L20.out.al (by omega) (.cells #[.bool false, .slice f1 1 g1, .slice f2 2 g2] 25)).al (by simp only [World.size_alloc]; omega) (.cells #[.int .i64 3, .int .i64 5] 3))
  have L32 : Hid (MidC (v2.heap.size + 1) (v2.heap.size + 1 + 1) wo26 (some ⟨v2.heap.size + 1, 0, none⟩) ([3, 5]) (2)) := by rw [hwo26]; exact n25
  have hb33 : Hid (Below w.heap.size w wo26) := by rw [hwo26]; exact ((hb18.out.alloc (by omega) (.cells #[.bool false, .slice f1 1 g1, .slice f2 2 g2] 25)).alloc (by simp only [World.size_alloc]; omega) (.cells #[.int .i64 3, .int .i64 5] 3))
  have zwo26 : w.heap.size ≤ wo26.heap.size := hb33.out.size
  clear hwo26 n21 l22 l23 l24 n25 hb18 B15 L19 L20
  refine (ints_any f2 g2 [3, 5] (some ⟨v2.heap.size + 1, 0, none⟩) 2 [3, 5] (by simp) _ _ (L31.out.is (by omega)).1 (L32.out.is (by omega)).1).mono ?_
  rintro e v3 ⟨rfl, hB⟩
  have z34 : wo26.heap.size ≤ v3.heap.size := hB.size
  have B35 : Hid (Abx v3 (w.heap.size) (.bool false) (.slice sa1 sz1.length sc1) (.slice da1 dz1.length dc1)) := B28.out.go hB
  have B36 : Hid (Abx v3 (v2.heap.size) (.bool false) (.slice f1 1 g1) (.slice f2 2 g2)) := B29.out.go hB
  have L37 : Hid (MidC (v1.heap.size) (v2.heap.size) v3 (f1) ([2]) (g1)) := L30.out.go (by omega) hB
  have L38 : Hid (MidC (v1.heap.size) (v2.heap.size) v3 (f2) ([3, 5]) (g2)) := L31.out.go (by omega) hB
  have L39 : Hid (MidC (v2.heap.size + 1) (v2.heap.size + 1 + 1) v3 (some ⟨v2.heap.size + 1, 0, none⟩) ([3, 5]) (2)) := L32.out.go (by omega) hB
  have hb40 : Hid (Below w.heap.size w v3) := hb33.out.trans (hB.mono hb33.out.size)
  clear hB hb33 B28 B29 L30 L31 L32
  rw [eqB_true rfl]
  clear L37 L38 L39 B36
  have l41 := (B35.out).c0
  have l42 := (B35.out).c1
  have l43 := (B35.out).c2
  go_wp2_with fail
  clear l41 l42 l43
  refine (check_ok false sa1 sc1 sz1 da1 dc1 dz1 x11 x12 _ ((HI1.out.1.1.below hb40.out).mono hb40.out.size) ((HI1.out.2.1.1.below hb40.out).mono hb40.out.size) F1.out).mono ?_
  rintro e v4 ⟨rfl, hB⟩
  have z44 : v3.heap.size ≤ v4.heap.size := hB.size
  have B45 : Hid (Abx v4 (w.heap.size) (.bool false) (.slice sa1 sz1.length sc1) (.slice da1 dz1.length dc1)) := B35.out.go hB
  have hb46 : Hid (Below w.heap.size w v4) := hb40.out.trans (hB.mono hb40.out.size)
  clear hB hb40 B35
  have l47 := (B45.out).c0
  have l48 := (B45.out).c1
  have l49 := (B45.out).c2
  go_wp2_with fail
  clear l47 l48 l49
  refine (scw_ok 1 0 false sa1 sc1 sz1 sz1.length rfl da1 dc1 dz1 dz1.length rfl _ (by unfold In64; decide) (by unfold In64; decide) x11 x12 ((HI1.out.1.below hb46.out).mono hb46.out.size) ((HI1.out.2.1.1.below hb46.out).mono hb46.out.size) HI1.out.2.2.2 sz1 D HSc ⟨HS1.out.1, rfl, HS1.out.2⟩).mono ?_
  rintro e v5 ⟨xa1, xc1, ya1, yc1, rfl, hX1, hY1, hB⟩
  have z50 : v4.heap.size ≤ v5.heap.size := hB.size
  have B51 : Hid (Abx v5 (w.heap.size) (.bool false) (.slice sa1 sz1.length sc1) (.slice da1 dz1.length dc1)) := B45.out.go hB
  have hb52 : Hid (Below w.heap.size w v5) := hb46.out.trans (hB.mono hb46.out.size)
  have L53 : Hid (MidC (v4.heap.size) (v5.heap.size) v5 (xa1) (sz1) (xc1)) := hX1.midc
  have L54 : Hid (MidC (v4.heap.size) (v5.heap.size) v5 (ya1) (D) (yc1)) := hY1.midc
  clear hB hb46 B45 hX1 hY1
  have t2 : ((D.length : Int) != (dz1.length : Int)) = false := by rw [HTD.out]; simp
  have n55 := Abx.new v5 (.bool false) (.slice xa1 sz1.length xc1) (.slice ya1 D.length yc1)
  have l56 := (n55).c0
  have l57 := (n55).c1
  have l58 := (n55).c2
  have l59 := ((B51.out.al (.cells #[.bool false, .slice xa1 sz1.length xc1, .slice ya1 D.length yc1] 25))).c0
  have l60 := ((B51.out.al (.cells #[.bool false, .slice xa1 sz1.length xc1, .slice ya1 D.length yc1] 25))).c1
  have l61 := ((B51.out.al (.cells #[.bool false, .slice xa1 sz1.length xc1, .slice ya1 D.length yc1] 25))).c2
  go_wp2_with fail
  obtain ⟨wo62, hwo62⟩ : ∃ wo62, wo62 = (v5.alloc (.cells #[.bool false, .slice xa1 sz1.length xc1, .slice ya1 D.length yc1] 25)) := ⟨_, rfl⟩
  rw [← hwo62]
  have z63 : v5.heap.size + 1 ≤ wo62.heap.size := by rw [hwo62]; simp only [World.size_alloc]; omega
  have B64 : Hid (Abx wo62 (w.heap.size) (.bool false) (.slice sa1 sz1.length sc1) (.slice da1 dz1.length dc1)) := by rw [hwo62]; exact (B51.out.al (.cells #[.bool false, .slice xa1 sz1.length xc1, .slice ya1 D.length yc1] 25))
  have B65 : Hid (Abx wo62 (v5.heap.size) (.bool false) (.slice xa1 sz1.length xc1) (.slice ya1 D.length yc1)) := by rw [hwo62]; exact n55
  have L66 : Hid (MidC (v4.heap.size) (v5.heap.size) wo62 (xa1) (sz1) (xc1)) := by rw [hwo62]; exact (L53.out.al (by omega) (.cells #[.bool false, .slice xa1 sz1.length xc1, .slice ya1 D.length yc1] 25))
  have L67 : Hid (MidC (v4.heap.size) (v5.heap.size) wo62 (ya1) (D) (yc1)) := by rw [hwo62]; exact (L54.out.al (by omega) (.cells #[.bool false, .slice xa1 sz1.length xc1, .slice ya1 D.length yc1] 25))
  have hb68 : Hid (Below w.heap.size w wo62) := by rw [hwo62]; exact (hb52.out.alloc (by omega) (.cells #[.bool false, .slice xa1 sz1.length xc1, .slice ya1 D.length yc1] 25))
  have zwo62 : w.heap.size ≤ wo62.heap.size := hb68.out.size
  clear hwo62 n55 l56 l57 l58 l59 l60 l61 hb52 B51 L53 L54 t2
  clear L66
  go_loopw [10] (fun i wr => ∃ k : Nat, k ≤ dz1.length ∧ i = .int .i64 k ∧ Below wo62.heap.size wo62 wr) (fun i _ => dz1.length - (intOf i).toNat)
  case atStart => exact ⟨0, Nat.zero_le _, rfl, Below.refl _ _⟩
  case round =>
    obtain ⟨k, hk, rfl, hBv⟩ := hrel
    have HBv : Hid (Below wo62.heap.size wo62 wr) := hBv
    have HBw : Hid (Below w.heap.size w wr) := hb68.out.trans (hBv.mono hb68.out.size)
    by_cases hlt : k < dz1.length
    · have lx := (B65.out.go hBv).c2
      have la := (B64.out.go hBv).c2
      have hIa := (HI1.out.2.1.1.below HBw.out).mono HBw.out.size
      obtain ⟨ba, oa, rfl, _, hca⟩ := hIa.at hlt
      have ca := hca k hlt
      have hIx := ((L67.out.is (by omega)).below hBv).1
      have hkD : k < D.length := by rw [HTD.out]; omega
      obtain ⟨bx, ox, rfl, _, hcx⟩ := hIx.at hkD
      have cx := hcx (k) hkD
      have hN := HO.out k hlt
      by_cases hk0 : k = 0
      · subst hk0
        rw [show ahd1 D 0 = 0 from rfl] at hN
        obtain ⟨X, hX⟩ : ∃ X, X = nth D 0 := ⟨_, rfl⟩
        obtain ⟨Y, hY⟩ : ∃ Y, Y = nth dz1 0 := ⟨_, rfl⟩
        rw [← hX] at cx hN
        rw [← hY] at ca hN
        have t3 : decide ((0 : Int) < ((0 : Nat) : Int)) = false := by simp
        have hN2 : IntKind.i64.wrap (X - 0) = Y := (IntWalk.i64_left _).trans hN
        rw [Int.sub_zero] at hN
        have t2 : (Y != Y) = false := by simp
        simp only [Nat.add_zero] at ca cx
        clear hca hcx hX hY hIa hIx hBv HO
        go_wp2_with fail
        go_quiet (fail)
        go_wp2_with fail
        exact ⟨⟨0 + 1, by omega, by go_num, bel_drewN HBv.out _⟩, by simp [intOf]; omega⟩
      · obtain ⟨K, rfl⟩ : ∃ K : Nat, k = K + 1 := ⟨k - 1, by omega⟩
        have cK := hcx K (by omega)
        rw [show ahd1 D (K + 1) = nth D K from rfl] at hN
        obtain ⟨Z, hZ⟩ : ∃ Z, Z = nth D K := ⟨_, rfl⟩
        obtain ⟨X, hX⟩ : ∃ X, X = nth D (K + 1) := ⟨_, rfl⟩
        obtain ⟨Y, hY⟩ : ∃ Y, Y = nth dz1 (K + 1) := ⟨_, rfl⟩
        rw [← hZ] at cK hN
        rw [← hX] at cx hN
        rw [← hY] at ca hN
        have t3 : decide ((0 : Int) < ((K + 1 : Nat) : Int)) = true := by simp <;> omega
        have t3' : decide ((0 : Int) < (K : Int) + 1) = true := by simp <;> omega
        have hN2 : IntKind.i64.wrap (X - Z) = Y := (IntWalk.i64_left _).trans hN
        have t2 : (Y != Y) = false := by simp
        clear hca hcx hX hY hZ hIa hIx hBv HO
        go_wp2_with fail
        go_quiet (fail)
        go_wp2_with fail
        exact ⟨⟨K + 1 + 1, by omega, by go_num, bel_drewN HBv.out _⟩, by simp [intOf]; omega⟩
    · obtain rfl : k = dz1.length := by omega
      clear hlt hk
      have hB := HBv.out
      have z69 : wo62.heap.size ≤ wr.heap.size := hB.size
      have B70 : Hid (Abx wr (w.heap.size) (.bool false) (.slice sa1 sz1.length sc1) (.slice da1 dz1.length dc1)) := B64.out.go hB
      have B71 : Hid (Abx wr (v5.heap.size) (.bool false) (.slice xa1 sz1.length xc1) (.slice ya1 D.length yc1)) := B65.out.go hB
      have L72 : Hid (MidC (v4.heap.size) (v5.heap.size) wr (ya1) (D) (yc1)) := L67.out.go (by omega) hB
      have hb73 : Hid (Below w.heap.size w wr) := hb68.out.trans (hB.mono hb68.out.size)
      clear hB hb68 B64 B65 L67
      clear HBv HBw hBv
      have l74 := (B70.out).c0
      have l75 := (B70.out).c1
      have l76 := (B70.out).c2
      go_wp2_with fail
      clear l74 l75 l76
      refine (wdw_no 1 n 0 false sa1 sc1 sz1 sz1.length rfl da1 dc1 dz1 dz1.length rfl _ (by unfold In64; decide) hn (by unfold In64; decide) x11 x12 ((HI1.out.1.below hb73.out).mono hb73.out.size) ((HI1.out.2.1.1.below hb73.out).mono hb73.out.size) HI1.out.2.2.2 HWd 4 HW4.out).mono ?_
      rintro e v6 ⟨xa2, xc2, ya2, yc2, rfl, hB⟩
      have z77 : wr.heap.size ≤ v6.heap.size := hB.size
      have B78 : Hid (Abx v6 (w.heap.size) (.bool false) (.slice sa1 sz1.length sc1) (.slice da1 dz1.length dc1)) := B70.out.go hB
      have B79 : Hid (Abx v6 (v5.heap.size) (.bool false) (.slice xa1 sz1.length xc1) (.slice ya1 D.length yc1)) := B71.out.go hB
      have L80 : Hid (MidC (v4.heap.size) (v5.heap.size) v6 (ya1) (D) (yc1)) := L72.out.go (by omega) hB
      have hb81 : Hid (Below w.heap.size w v6) := hb73.out.trans (hB.mono hb73.out.size)
      clear hB hb73 B70 B71 L72
      by_cases h1 : n < 1
      · have t4 : decide (n < 1) = true := by simp; omega
        have n82 := Abx.new v6 (.bool false) (.slice xa2 0 xc2) (.slice ya2 0 yc2)
        have l83 := ((B78.out.al (.cells #[.bool false, .slice xa2 0 xc2, .slice ya2 0 yc2] 25))).c0
        have l84 := ((B78.out.al (.cells #[.bool false, .slice xa2 0 xc2, .slice ya2 0 yc2] 25))).c1
        have l85 := ((B78.out.al (.cells #[.bool false, .slice xa2 0 xc2, .slice ya2 0 yc2] 25))).c2
        go_wp2_with fail
        obtain ⟨wo86, hwo86⟩ : ∃ wo86, wo86 = (v6.alloc (.cells #[.bool false, .slice xa2 0 xc2, .slice ya2 0 yc2] 25)) := ⟨_, rfl⟩
        rw [← hwo86]
        have z87 : v6.heap.size + 1 ≤ wo86.heap.size := by rw [hwo86]; simp only [World.size_alloc]; omega
        have B88 : Hid (Abx wo86 (w.heap.size) (.bool false) (.slice sa1 sz1.length sc1) (.slice da1 dz1.length dc1)) := by rw [hwo86]; exact (B78.out.al (.cells #[.bool false, .slice xa2 0 xc2, .slice ya2 0 yc2] 25))
        have B89 : Hid (Abx wo86 (v5.heap.size) (.bool false) (.slice xa1 sz1.length xc1) (.slice ya1 D.length yc1)) := by rw [hwo86]; exact (B79.out.al (.cells #[.bool false, .slice xa2 0 xc2, .slice ya2 0 yc2] 25))
        have B90 : Hid (Abx wo86 (v6.heap.size) (.bool false) (.slice xa2 0 xc2) (.slice ya2 0 yc2)) := by rw [hwo86]; exact n82
        have L91 : Hid (MidC (v4.heap.size) (v5.heap.size) wo86 (ya1) (D) (yc1)) := by rw [hwo86]; exact (L80.out.al (by omega) (.cells #[.bool false, .slice xa2 0 xc2, .slice ya2 0 yc2] 25))
        have hb92 : Hid (Below w.heap.size w wo86) := by rw [hwo86]; exact (hb81.out.alloc (by omega) (.cells #[.bool false, .slice xa2 0 xc2, .slice ya2 0 yc2] 25))
        have zwo86 : w.heap.size ≤ wo86.heap.size := hb92.out.size
        clear hwo86 n82 l83 l84 l85 hb81 B78 B79 L80 t4
        refine (error_same 4 _ (HG.out.below hb92.out HG.out.pos)).mono ?_
        rintro e v7 ⟨rfl, hB⟩
        have z93 : wo86.heap.size ≤ v7.heap.size := hB.size
        have B94 : Hid (Abx v7 (w.heap.size) (.bool false) (.slice sa1 sz1.length sc1) (.slice da1 dz1.length dc1)) := B88.out.go hB
        have B95 : Hid (Abx v7 (v5.heap.size) (.bool false) (.slice xa1 sz1.length xc1) (.slice ya1 D.length yc1)) := B89.out.go hB
        have B96 : Hid (Abx v7 (v6.heap.size) (.bool false) (.slice xa2 0 xc2) (.slice ya2 0 yc2)) := B90.out.go hB
        have L97 : Hid (MidC (v4.heap.size) (v5.heap.size) v7 (ya1) (D) (yc1)) := L91.out.go (by omega) hB
        have hb98 : Hid (Below w.heap.size w v7) := hb92.out.trans (hB.mono hb92.out.size)
        clear hB hb92 B88 B89 B90 L91
        go_wp2_with fail
        go_ret
        exact ⟨rfl, hb98.out⟩
      · have t4 : decide (n < 1) = false := by simp; omega
        have t5 : decide ((dz1.length : Int) < n) = true := by simp; omega
        have n82 := Abx.new v6 (.bool false) (.slice xa2 0 xc2) (.slice ya2 0 yc2)
        have l83 := ((B78.out.al (.cells #[.bool false, .slice xa2 0 xc2, .slice ya2 0 yc2] 25))).c0
        have l84 := ((B78.out.al (.cells #[.bool false, .slice xa2 0 xc2, .slice ya2 0 yc2] 25))).c1
        have l85 := ((B78.out.al (.cells #[.bool false, .slice xa2 0 xc2, .slice ya2 0 yc2] 25))).c2
        go_wp2_with fail
        obtain ⟨wo86, hwo86⟩ : ∃ wo86, wo86 = (v6.alloc (.cells #[.bool false, .slice xa2 0 xc2, .slice ya2 0 yc2] 25)) := ⟨_, rfl⟩
        rw [← hwo86]
        have z87 : v6.heap.size + 1 ≤ wo86.heap.size := by rw [hwo86]; simp only [World.size_alloc]; omega
        have B88 : Hid (Abx wo86 (w.heap.size) (.bool false) (.slice sa1 sz1.length sc1) (.slice da1 dz1.length dc1)) := by rw [hwo86]; exact (B78.out.al (.cells #[.bool false, .slice xa2 0 xc2, .slice ya2 0 yc2] 25))
        have B89 : Hid (Abx wo86 (v5.heap.size) (.bool false) (.slice xa1 sz1.length xc1) (.slice ya1 D.length yc1)) := by rw [hwo86]; exact (B79.out.al (.cells #[.bool false, .slice xa2 0 xc2, .slice ya2 0 yc2] 25))
        have B90 : Hid (Abx wo86 (v6.heap.size) (.bool false) (.slice xa2 0 xc2) (.slice ya2 0 yc2)) := by rw [hwo86]; exact n82
        have L91 : Hid (MidC (v4.heap.size) (v5.heap.size) wo86 (ya1) (D) (yc1)) := by rw [hwo86]; exact (L80.out.al (by omega) (.cells #[.bool false, .slice xa2 0 xc2, .slice ya2 0 yc2] 25))
        have hb92 : Hid (Below w.heap.size w wo86) := by rw [hwo86]; exact (hb81.out.alloc (by omega) (.cells #[.bool false, .slice xa2 0 xc2, .slice ya2 0 yc2] 25))
        have zwo86 : w.heap.size ≤ wo86.heap.size := hb92.out.size
        clear hwo86 n82 l83 l84 l85 hb81 B78 B79 L80 t4 t5
        refine (error_same 4 _ (HG.out.below hb92.out HG.out.pos)).mono ?_
        rintro e v7 ⟨rfl, hB⟩
        have z93 : wo86.heap.size ≤ v7.heap.size := hB.size
        have B94 : Hid (Abx v7 (w.heap.size) (.bool false) (.slice sa1 sz1.length sc1) (.slice da1 dz1.length dc1)) := B88.out.go hB
        have B95 : Hid (Abx v7 (v5.heap.size) (.bool false) (.slice xa1 sz1.length xc1) (.slice ya1 D.length yc1)) := B89.out.go hB
        have B96 : Hid (Abx v7 (v6.heap.size) (.bool false) (.slice xa2 0 xc2) (.slice ya2 0 yc2)) := B90.out.go hB
        have L97 : Hid (MidC (v4.heap.size) (v5.heap.size) v7 (ya1) (D) (yc1)) := L91.out.go (by omega) hB
        have hb98 : Hid (Below w.heap.size w v7) := hb92.out.trans (hB.mono hb92.out.size)
        clear hB hb92 B88 B89 B90 L91
        go_wp2_with fail
        go_ret
        exact ⟨rfl, hb98.out⟩
set_option maxRecDepth 100000 in
set_option maxHeartbeats 8000000 in
theorem sums_fine (HSc : CSc) (HWd : CWd) (c1 : Bool) (sa1 : Option Addr) (sc1 : Nat) (sz1 : List Int) (da1 : Option Addr) (dc1 : Nat) (dz1 : List Int) (N : Nat) (w : World) (hg : HasErr w) (w8 : IsArrD w sa1 sz1 sc1 da1 dz1 dc1) (F1 : Hid (flawE c1 sz1 dz1 = 0)) (hc : c1 = false) (F2 : Hid (sz1.length = 1)) (F3 : Hid (1 ≤ N ∧ N ≤ dz1.length)) :
    Calls Tryd.prog 4 #[.agg #[.bool c1, .slice sa1 sz1.length sc1, .slice da1 dz1.length dc1], .int .i64 (N : Nat)] w fun e w' => e = .returned (.bool true) ∧ Below w.heap.size w w' := by
  subst hc
  obtain ⟨M, hMs, hM⟩ := one_axis F1.out F2.out
  have HSz : Hid (sz1 = [(M : Int)] ∧ M = dz1.length ∧ flawE false [(M : Int)] dz1 = 0) := ⟨hMs, hM, by rw [← hMs]; exact F1.out⟩
  have T1 := w8.2.2.2.2.2
  have hM4 : dz1.length ≤ 4096 := (flawE_short F1.out).2
  have t1 : ((sz1.length : Int) != 1) = false := by rw [F2.out]; rfl
  clear hMs hM
  obtain ⟨D, hD⟩ : ∃ D, D = scD 1 sz1 dz1 0 := ⟨_, rfl⟩
  have hz := HSz.out
  have he := (flawE_zero hz.2.2).1
  have hd : (dz1.length : Int) = (M : Int) := by rw [hz.2.1]
  have hln : D.length = dz1.length := by rw [hD, hz.1]; exact (sc_add he hd T1).1
  have HD1 : Hid (D = scD 1 [(M : Int)] dz1 0) := by show D = _; rw [hD, hz.1]
  have HS1 : Hid (scE 1 0 false sz1 dz1 = 0 ∧ scD 1 sz1 dz1 (0 : Int).toNat = D) := ⟨by rw [hz.1]; exact sc_vec_ok mon1 T1 hz.2.2, hD.symm⟩
  have HO : Hid (∀ i, i < dz1.length → wrap64 (nth D i - ahd1 D i) = nth dz1 i) := fun i hi => by rw [hD, hz.1]; exact sums_one he hd T1 hi
  have HTD : Hid (D.length = dz1.length) := hln
  have hD4 : D.length ≤ 4096 := by omega
  have ls1 : sz1.length ≤ 6 := (flawE_short F1.out).1
  have hn1 := F3.out.1
  have hn2 := F3.out.2
  obtain ⟨G, hG⟩ : ∃ G, G = wdD 1 (N : Int) sz1 dz1 0 := ⟨_, rfl⟩
  obtain ⟨T, hT⟩ : ∃ T, T = wdS (N : Int) 0 sz1 := ⟨_, rfl⟩
  obtain ⟨s1, s2⟩ := sums_some hz.2.2 T1 (n := (N : Int)) (by omega) (by omega)
  rw [Int.toNat_natCast] at s1 s2
  rw [← hz.1, ← hG] at s1 s2
  rw [← hD] at s2
  have HW0 : Hid (wdE 1 (N : Int) 0 false sz1 dz1 = 0 ∧ wdS (N : Int) (0 : Int).toNat sz1 = T ∧ wdD 1 (N : Int) sz1 dz1 (0 : Int).toNat = G) := ⟨by rw [hz.1, wd_vec_ok mon1 T1 hz.2.2, if_neg (by omega)], hT.symm, hG.symm⟩
  have HO2 : Hid (∀ i, i < G.length → wrap64 (nth D (i + N - 1) - ahd1 D i) = nth G i) := fun i hi => s2 i (by omega)
  have HLG : Hid (G.length = dz1.length - N + 1) := s1
  have lG : G.length + N ≤ dz1.length + 1 ∧ dz1.length + 1 ≤ G.length + N := by omega
  have lT : T.length ≤ 6 := by rw [hT]; unfold wdS; rw [List.length_set]; omega
  clear T1 hD hz he hd hln hG hT s1 s2
  obtain ⟨x11, x12, x3, x4, s64, T⟩ := w8
  have HI1 : Hid (IsC w.heap.size w sa1 sz1 sc1 ∧ IsC w.heap.size w da1 dz1 dc1 ∧ (∀ j, In64 (nth sz1 j)) ∧ ∀ j, In64 (nth dz1 j)) := ⟨x3, x4, s64, T⟩
  clear x3 x4 T s64
  have HG : Hid (HasErr w) := hg
  clear hg
  have n1 := Abx.new w (.bool false) (.slice sa1 sz1.length sc1) (.slice da1 dz1.length dc1)
  have n2 := lit_mid (w.alloc (.cells #[.bool false, .slice sa1 sz1.length sc1, .slice da1 dz1.length dc1] 25)) 3 [1, 2, 3] 3 rfl
  simp only [World.size_alloc, List.map_cons, List.map_nil] at n2
  go_enter Tryd.func4, Tryd.ntmps4
  go_wp2_with fail
  obtain ⟨wo3, hwo3⟩ : ∃ wo3, wo3 = ((w.alloc (.cells #[.bool false, .slice sa1 sz1.length sc1, .slice da1 dz1.length dc1] 25)).alloc (.cells #[.int .i64 1, .int .i64 2, .int .i64 3] 3)) := ⟨_, rfl⟩
  rw [← hwo3]
  have z4 : w.heap.size + 1 + 1 ≤ wo3.heap.size := by rw [hwo3]; simp only [World.size_alloc]; omega
  have B5 : Hid (Abx wo3 (w.heap.size) (.bool false) (.slice sa1 sz1.length sc1) (.slice da1 dz1.length dc1)) := by rw [hwo3]; exact (n1.al (.cells #[.int .i64 1, .int .i64 2, .int .i64 3] 3))
  have L6 : Hid (MidC (w.heap.size + 1) (w.heap.size + 1 + 1) wo3 (some ⟨w.heap.size + 1, 0, none⟩) ([1, 2, 3]) (3)) := by rw [hwo3]; exact n2
  have hb7 : Hid (Below w.heap.size w wo3) := by rw [hwo3]; exact (((Below.refl w.heap.size w).alloc (by omega) (.cells #[.bool false, .slice sa1 sz1.length sc1, .slice da1 dz1.length dc1] 25)).alloc (by simp only [World.size_alloc]; omega) (.cells #[.int .i64 1, .int .i64 2, .int .i64 3] 3))
  have zwo3 : w.heap.size ≤ wo3.heap.size := hb7.out.size
  clear hwo3 n1 n2
  refine (vec_c (some ⟨w.heap.size + 1, 0, none⟩) 3 [1, 2, 3] (by simp) _ (L6.out.is (by omega)).1).mono ?_
  rintro e v1 ⟨vap, vcp, gap, gcp, rfl, hVp, hGp, hB⟩
  have z8 : wo3.heap.size ≤ v1.heap.size := hB.size
  have B9 : Hid (Abx v1 (w.heap.size) (.bool false) (.slice sa1 sz1.length sc1) (.slice da1 dz1.length dc1)) := B5.out.go hB
  have L10 : Hid (MidC (w.heap.size + 1) (w.heap.size + 1 + 1) v1 (some ⟨w.heap.size + 1, 0, none⟩) ([1, 2, 3]) (3)) := L6.out.go (by omega) hB
  have hb11 : Hid (Below w.heap.size w v1) := hb7.out.trans (hB.mono hb7.out.size)
  have L12 : Hid (MidC (wo3.heap.size) (v1.heap.size) v1 (vap) ([(3 : Int)]) (vcp)) := hVp.midc
  have L13 : Hid (MidC (wo3.heap.size) (v1.heap.size) v1 (gap) ([1, 2, 3]) (gcp)) := hGp.midc
  clear hB hb7 B5 L6 hVp hGp
  clear L10
  go_wp2_with fail
  refine (wdw_ok 1 2 0 false vap vcp [(3 : Int)] 1 rfl gap gcp [1, 2, 3] 3 rfl _ (by unfold In64; decide) (by unfold In64; decide) (by unfold In64; decide) (by decide) (by decide) (L12.out.is (by omega)) (L13.out.is (by omega)).1 (lit12 (by decide)) [2] [3, 5] HWd (by show wdE 1 2 0 false [(3 : Int)] [1, 2, 3] = 0 ∧ wdS 2 (0 : Int).toNat [(3 : Int)] = [2] ∧ wdD 1 2 [(3 : Int)] [1, 2, 3] (0 : Int).toNat = [3, 5]; decide +kernel)).mono ?_
  rintro e v2 ⟨f1, g1, f2, g2, rfl, hX0, hY0, hB⟩
  have z14 : v1.heap.size ≤ v2.heap.size := hB.size
  have B15 : Hid (Abx v2 (w.heap.size) (.bool false) (.slice sa1 sz1.length sc1) (.slice da1 dz1.length dc1)) := B9.out.go hB
  have L16 : Hid (MidC (wo3.heap.size) (v1.heap.size) v2 (vap) ([(3 : Int)]) (vcp)) := L12.out.go (by omega) hB
  have L17 : Hid (MidC (wo3.heap.size) (v1.heap.size) v2 (gap) ([1, 2, 3]) (gcp)) := L13.out.go (by omega) hB
  have hb18 : Hid (Below w.heap.size w v2) := hb11.out.trans (hB.mono hb11.out.size)
  have L19 : Hid (MidC (v1.heap.size) (v2.heap.size) v2 (f1) ([2]) (g1)) := hX0.midc
  have L20 : Hid (MidC (v1.heap.size) (v2.heap.size) v2 (f2) ([3, 5]) (g2)) := hY0.midc
  clear hB hb11 B9 L12 L13 hX0 hY0
  clear L16 L17
  have n21 := Abx.new v2 (.bool false) (.slice f1 1 g1) (.slice f2 2 g2)
  have l22 := (n21).c0
  have l23 := (n21).c1
  have l24 := (n21).c2
  have n25 := lit_mid (v2.alloc (.cells #[.bool false, .slice f1 1 g1, .slice f2 2 g2] 25)) 3 [3, 5] 2 rfl
  simp only [World.size_alloc, List.map_cons, List.map_nil] at n25
  go_wp2_with fail
  obtain ⟨wo26, hwo26⟩ : ∃ wo26, wo26 = ((v2.alloc (.cells #[.bool false, .slice f1 1 g1, .slice f2 2 g2] 25)).alloc (.cells #[.int .i64 3, .int .i64 5] 3)) := ⟨_, rfl⟩
  rw [← hwo26]
  have z27 : v2.heap.size + 1 + 1 ≤ wo26.heap.size := by rw [hwo26]; simp only [World.size_alloc]; omega
  have B28 : Hid (Abx wo26 (w.heap.size) (.bool false) (.slice sa1 sz1.length sc1) (.slice da1 dz1.length dc1)) := by rw [hwo26]; exact ((B15.out.al (.cells #[.bool false, .slice f1 1 g1, .slice f2 2 g2] 25)).al (.cells #[.int .i64 3, .int .i64 5] 3))
  have B29 : Hid (Abx wo26 (v2.heap.size) (.bool false) (.slice f1 1 g1) (.slice f2 2 g2)) := by rw [hwo26]; exact (n21.al (.cells #[.int .i64 3, .int .i64 5] 3))
  have L30 : Hid (MidC (v1.heap.size) (v2.heap.size) wo26 (f1) ([2]) (g1)) := by rw [hwo26]; exact ((L19.out.al (by omega) (.cells #[.bool false, .slice f1 1 g1, .slice f2 2 g2] 25)).al (by simp only [World.size_alloc]; omega) (.cells #[.int .i64 3, .int .i64 5] 3))
  have L31 : Hid (MidC (v1.heap.size) (v2.heap.size) wo26 (f2) ([3, 5]) (g2)) := by rw [hwo26]; exact ((L20.out.al (by omega) (.cells #[.bool false, .slice f1 1 g1, .slice f2 2 g2] 25)).al (by simp only [World.size_alloc]; omega) (.cells #[.int .i64 3, .int .i64 5] 3))
  have L32 : Hid (MidC (v2.heap.size + 1) (v2.heap.size + 1 + 1) wo26 (some ⟨v2.heap.size + 1, 0, none⟩) ([3, 5]) (2)) := by rw [hwo26]; exact n25
  have hb33 : Hid (Below w.heap.size w wo26) := by rw [hwo26]; exact ((hb18.out.alloc (by omega) (.cells #[.bool false, .slice f1 1 g1, .slice f2 2 g2] 25)).alloc (by simp only [World.size_alloc]; omega) (.cells #[.int .i64 3, .int .i64 5] 3))
  have zwo26 : w.heap.size ≤ wo26.heap.size := hb33.out.size
  clear hwo26 n21 l22 l23 l24 n25 hb18 B15 L19 L20
  refine (ints_any f2 g2 [3, 5] (some ⟨v2.heap.size + 1, 0, none⟩) 2 [3, 5] (by simp) _ _ (L31.out.is (by omega)).1 (L32.out.is (by omega)).1).mono ?_
  rintro e v3 ⟨rfl, hB⟩
  have z34 : wo26.heap.size ≤ v3.heap.size := hB.size
  have B35 : Hid (Abx v3 (w.heap.size) (.bool false) (.slice sa1 sz1.length sc1) (.slice da1 dz1.length dc1)) := B28.out.go hB
  have B36 : Hid (Abx v3 (v2.heap.size) (.bool false) (.slice f1 1 g1) (.slice f2 2 g2)) := B29.out.go hB
  have L37 : Hid (MidC (v1.heap.size) (v2.heap.size) v3 (f1) ([2]) (g1)) := L30.out.go (by omega) hB
  have L38 : Hid (MidC (v1.heap.size) (v2.heap.size) v3 (f2) ([3, 5]) (g2)) := L31.out.go (by omega) hB
  have L39 : Hid (MidC (v2.heap.size + 1) (v2.heap.size + 1 + 1) v3 (some ⟨v2.heap.size + 1, 0, none⟩) ([3, 5]) (2)) := L32.out.go (by omega) hB
  have hb40 : Hid (Below w.heap.size w v3) := hb33.out.trans (hB.mono hb33.out.size)
  clear hB hb33 B28 B29 L30 L31 L32
  rw [eqB_true rfl]
  clear L37 L38 L39 B36
  have l41 := (B35.out).c0
  have l42 := (B35.out).c1
  have l43 := (B35.out).c2
  go_wp2_with fail
  clear l41 l42 l43
  refine (check_ok false sa1 sc1 sz1 da1 dc1 dz1 x11 x12 _ ((HI1.out.1.1.below hb40.out).mono hb40.out.size) ((HI1.out.2.1.1.below hb40.out).mono hb40.out.size) F1.out).mono ?_
  rintro e v4 ⟨rfl, hB⟩
  have z44 : v3.heap.size ≤ v4.heap.size := hB.size
  have B45 : Hid (Abx v4 (w.heap.size) (.bool false) (.slice sa1 sz1.length sc1) (.slice da1 dz1.length dc1)) := B35.out.go hB
  have hb46 : Hid (Below w.heap.size w v4) := hb40.out.trans (hB.mono hb40.out.size)
  clear hB hb40 B35
  have l47 := (B45.out).c0
  have l48 := (B45.out).c1
  have l49 := (B45.out).c2
  go_wp2_with fail
  clear l47 l48 l49
  refine (scw_ok 1 0 false sa1 sc1 sz1 sz1.length rfl da1 dc1 dz1 dz1.length rfl _ (by unfold In64; decide) (by unfold In64; decide) x11 x12 ((HI1.out.1.below hb46.out).mono hb46.out.size) ((HI1.out.2.1.1.below hb46.out).mono hb46.out.size) HI1.out.2.2.2 sz1 D HSc ⟨HS1.out.1, rfl, HS1.out.2⟩).mono ?_
  rintro e v5 ⟨xa1, xc1, ya1, yc1, rfl, hX1, hY1, hB⟩
  have z50 : v4.heap.size ≤ v5.heap.size := hB.size
  have B51 : Hid (Abx v5 (w.heap.size) (.bool false) (.slice sa1 sz1.length sc1) (.slice da1 dz1.length dc1)) := B45.out.go hB
  have hb52 : Hid (Below w.heap.size w v5) := hb46.out.trans (hB.mono hb46.out.size)
  have L53 : Hid (MidC (v4.heap.size) (v5.heap.size) v5 (xa1) (sz1) (xc1)) := hX1.midc
  have L54 : Hid (MidC (v4.heap.size) (v5.heap.size) v5 (ya1) (D) (yc1)) := hY1.midc
  clear hB hb46 B45 hX1 hY1
  have t2 : ((D.length : Int) != (dz1.length : Int)) = false := by rw [HTD.out]; simp
  have n55 := Abx.new v5 (.bool false) (.slice xa1 sz1.length xc1) (.slice ya1 D.length yc1)
  have l56 := (n55).c0
  have l57 := (n55).c1
  have l58 := (n55).c2
  have l59 := ((B51.out.al (.cells #[.bool false, .slice xa1 sz1.length xc1, .slice ya1 D.length yc1] 25))).c0
  have l60 := ((B51.out.al (.cells #[.bool false, .slice xa1 sz1.length xc1, .slice ya1 D.length yc1] 25))).c1
  have l61 := ((B51.out.al (.cells #[.bool false, .slice xa1 sz1.length xc1, .slice ya1 D.length yc1] 25))).c2
  go_wp2_with fail
  obtain ⟨wo62, hwo62⟩ : ∃ wo62, wo62 = (v5.alloc (.cells #[.bool false, .slice xa1 sz1.length xc1, .slice ya1 D.length yc1] 25)) := ⟨_, rfl⟩
  rw [← hwo62]
  have z63 : v5.heap.size + 1 ≤ wo62.heap.size := by rw [hwo62]; simp only [World.size_alloc]; omega
  have B64 : Hid (Abx wo62 (w.heap.size) (.bool false) (.slice sa1 sz1.length sc1) (.slice da1 dz1.length dc1)) := by rw [hwo62]; exact (B51.out.al (.cells #[.bool false, .slice xa1 sz1.length xc1, .slice ya1 D.length yc1] 25))
  have B65 : Hid (Abx wo62 (v5.heap.size) (.bool false) (.slice xa1 sz1.length xc1) (.slice ya1 D.length yc1)) := by rw [hwo62]; exact n55
  have L66 : Hid (MidC (v4.heap.size) (v5.heap.size) wo62 (xa1) (sz1) (xc1)) := by rw [hwo62]; exact (L53.out.al (by omega) (.cells #[.bool false, .slice xa1 sz1.length xc1, .slice ya1 D.length yc1] 25))
  have L67 : Hid (MidC (v4.heap.size) (v5.heap.size) wo62 (ya1) (D) (yc1)) := by rw [hwo62]; exact (L54.out.al (by omega) (.cells #[.bool false, .slice xa1 sz1.length xc1, .slice ya1 D.length yc1] 25))
  have hb68 : Hid (Below w.heap.size w wo62) := by rw [hwo62]; exact (hb52.out.alloc (by omega) (.cells #[.bool false, .slice xa1 sz1.length xc1, .slice ya1 D.length yc1] 25))
  have zwo62 : w.heap.size ≤ wo62.heap.size := hb68.out.size
  clear hwo62 n55 l56 l57 l58 l59 l60 l61 hb52 B51 L53 L54 t2
  clear L66
  go_loopw [10] (fun i wr => ∃ k : Nat, k ≤ dz1.length ∧ i = .int .i64 k ∧ Below wo62.heap.size wo62 wr) (fun i _ => dz1.length - (intOf i).toNat)
  case atStart => exact ⟨0, Nat.zero_le _, rfl, Below.refl _ _⟩
  case round =>
    obtain ⟨k, hk, rfl, hBv⟩ := hrel
    have HBv : Hid (Below wo62.heap.size wo62 wr) := hBv
    have HBw : Hid (Below w.heap.size w wr) := hb68.out.trans (hBv.mono hb68.out.size)
    by_cases hlt : k < dz1.length
    · have lx := (B65.out.go hBv).c2
      have la := (B64.out.go hBv).c2
      have hIa := (HI1.out.2.1.1.below HBw.out).mono HBw.out.size
      obtain ⟨ba, oa, rfl, _, hca⟩ := hIa.at hlt
      have ca := hca k hlt
      have hIx := ((L67.out.is (by omega)).below hBv).1
      have hkD : k < D.length := by rw [HTD.out]; omega
      obtain ⟨bx, ox, rfl, _, hcx⟩ := hIx.at hkD
      have cx := hcx (k) hkD
      have hN := HO.out k hlt
      by_cases hk0 : k = 0
      · subst hk0
        rw [show ahd1 D 0 = 0 from rfl] at hN
        obtain ⟨X, hX⟩ : ∃ X, X = nth D 0 := ⟨_, rfl⟩
        obtain ⟨Y, hY⟩ : ∃ Y, Y = nth dz1 0 := ⟨_, rfl⟩
        rw [← hX] at cx hN
        rw [← hY] at ca hN
        have t3 : decide ((0 : Int) < ((0 : Nat) : Int)) = false := by simp
        have hN2 : IntKind.i64.wrap (X - 0) = Y := (IntWalk.i64_left _).trans hN
        rw [Int.sub_zero] at hN
        have t2 : (Y != Y) = false := by simp
        simp only [Nat.add_zero] at ca cx
        clear hca hcx hX hY hIa hIx hBv HO
        go_wp2_with fail
        go_quiet (fail)
        go_wp2_with fail
        exact ⟨⟨0 + 1, by omega, by go_num, bel_drewN HBv.out _⟩, by simp [intOf]; omega⟩
      · obtain ⟨K, rfl⟩ : ∃ K : Nat, k = K + 1 := ⟨k - 1, by omega⟩
        have cK := hcx K (by omega)
        rw [show ahd1 D (K + 1) = nth D K from rfl] at hN
        obtain ⟨Z, hZ⟩ : ∃ Z, Z = nth D K := ⟨_, rfl⟩
        obtain ⟨X, hX⟩ : ∃ X, X = nth D (K + 1) := ⟨_, rfl⟩
        obtain ⟨Y, hY⟩ : ∃ Y, Y = nth dz1 (K + 1) := ⟨_, rfl⟩
        rw [← hZ] at cK hN
        rw [← hX] at cx hN
        rw [← hY] at ca hN
        have t3 : decide ((0 : Int) < ((K + 1 : Nat) : Int)) = true := by simp <;> omega
        have t3' : decide ((0 : Int) < (K : Int) + 1) = true := by simp <;> omega
        have hN2 : IntKind.i64.wrap (X - Z) = Y := (IntWalk.i64_left _).trans hN
        have t2 : (Y != Y) = false := by simp
        clear hca hcx hX hY hZ hIa hIx hBv HO
        go_wp2_with fail
        go_quiet (fail)
        go_wp2_with fail
        exact ⟨⟨K + 1 + 1, by omega, by go_num, bel_drewN HBv.out _⟩, by simp [intOf]; omega⟩
    · obtain rfl : k = dz1.length := by omega
      clear hlt hk
      have hB := HBv.out
      have z69 : wo62.heap.size ≤ wr.heap.size := hB.size
      have B70 : Hid (Abx wr (w.heap.size) (.bool false) (.slice sa1 sz1.length sc1) (.slice da1 dz1.length dc1)) := B64.out.go hB
      have B71 : Hid (Abx wr (v5.heap.size) (.bool false) (.slice xa1 sz1.length xc1) (.slice ya1 D.length yc1)) := B65.out.go hB
      have L72 : Hid (MidC (v4.heap.size) (v5.heap.size) wr (ya1) (D) (yc1)) := L67.out.go (by omega) hB
      have hb73 : Hid (Below w.heap.size w wr) := hb68.out.trans (hB.mono hb68.out.size)
      clear hB hb68 B64 B65 L67
      clear HBv HBw hBv
      have l74 := (B70.out).c0
      have l75 := (B70.out).c1
      have l76 := (B70.out).c2
      go_wp2_with fail
      clear l74 l75 l76
      refine (wdw_ok 1 (N : Int) 0 false sa1 sc1 sz1 sz1.length rfl da1 dc1 dz1 dz1.length rfl _ (by unfold In64; decide) (by unfold In64; omega) (by unfold In64; decide) x11 x12 ((HI1.out.1.below hb73.out).mono hb73.out.size) ((HI1.out.2.1.1.below hb73.out).mono hb73.out.size) HI1.out.2.2.2 T G HWd HW0.out).mono ?_
      rintro e v6 ⟨xa2, xc2, ya2, yc2, rfl, hX2, hY2, hB⟩
      have z77 : wr.heap.size ≤ v6.heap.size := hB.size
      have B78 : Hid (Abx v6 (w.heap.size) (.bool false) (.slice sa1 sz1.length sc1) (.slice da1 dz1.length dc1)) := B70.out.go hB
      have B79 : Hid (Abx v6 (v5.heap.size) (.bool false) (.slice xa1 sz1.length xc1) (.slice ya1 D.length yc1)) := B71.out.go hB
      have L80 : Hid (MidC (v4.heap.size) (v5.heap.size) v6 (ya1) (D) (yc1)) := L72.out.go (by omega) hB
      have hb81 : Hid (Below w.heap.size w v6) := hb73.out.trans (hB.mono hb73.out.size)
      have L82 : Hid (MidC (wr.heap.size) (v6.heap.size) v6 (xa2) (T) (xc2)) := hX2.midc
      have L83 : Hid (MidC (wr.heap.size) (v6.heap.size) v6 (ya2) (G) (yc2)) := hY2.midc
      clear hB hb73 B70 B71 L72 hX2 hY2
      have t4 : decide ((N : Int) < 1) = false := by simp; omega
      have t5 : decide ((dz1.length : Int) < (N : Int)) = false := by simp; omega
      have t6 : ((G.length : Int) != (dz1.length : Int) - (N : Int) + 1) = false := by simp; omega
      have n84 := Abx.new v6 (.bool false) (.slice xa2 T.length xc2) (.slice ya2 G.length yc2)
      have l85 := ((B78.out.al (.cells #[.bool false, .slice xa2 T.length xc2, .slice ya2 G.length yc2] 25))).c0
      have l86 := ((B78.out.al (.cells #[.bool false, .slice xa2 T.length xc2, .slice ya2 G.length yc2] 25))).c1
      have l87 := ((B78.out.al (.cells #[.bool false, .slice xa2 T.length xc2, .slice ya2 G.length yc2] 25))).c2
      have l88 := (n84).c0
      have l89 := (n84).c1
      have l90 := (n84).c2
      go_wp2_with fail
      obtain ⟨wo91, hwo91⟩ : ∃ wo91, wo91 = (v6.alloc (.cells #[.bool false, .slice xa2 T.length xc2, .slice ya2 G.length yc2] 25)) := ⟨_, rfl⟩
      rw [← hwo91]
      have z92 : v6.heap.size + 1 ≤ wo91.heap.size := by rw [hwo91]; simp only [World.size_alloc]; omega
      have B93 : Hid (Abx wo91 (w.heap.size) (.bool false) (.slice sa1 sz1.length sc1) (.slice da1 dz1.length dc1)) := by rw [hwo91]; exact (B78.out.al (.cells #[.bool false, .slice xa2 T.length xc2, .slice ya2 G.length yc2] 25))
      have B94 : Hid (Abx wo91 (v5.heap.size) (.bool false) (.slice xa1 sz1.length xc1) (.slice ya1 D.length yc1)) := by rw [hwo91]; exact (B79.out.al (.cells #[.bool false, .slice xa2 T.length xc2, .slice ya2 G.length yc2] 25))
      have B95 : Hid (Abx wo91 (v6.heap.size) (.bool false) (.slice xa2 T.length xc2) (.slice ya2 G.length yc2)) := by rw [hwo91]; exact n84
      have L96 : Hid (MidC (v4.heap.size) (v5.heap.size) wo91 (ya1) (D) (yc1)) := by rw [hwo91]; exact (L80.out.al (by omega) (.cells #[.bool false, .slice xa2 T.length xc2, .slice ya2 G.length yc2] 25))
      have L97 : Hid (MidC (wr.heap.size) (v6.heap.size) wo91 (xa2) (T) (xc2)) := by rw [hwo91]; exact (L82.out.al (by omega) (.cells #[.bool false, .slice xa2 T.length xc2, .slice ya2 G.length yc2] 25))
      have L98 : Hid (MidC (wr.heap.size) (v6.heap.size) wo91 (ya2) (G) (yc2)) := by rw [hwo91]; exact (L83.out.al (by omega) (.cells #[.bool false, .slice xa2 T.length xc2, .slice ya2 G.length yc2] 25))
      have hb99 : Hid (Below w.heap.size w wo91) := by rw [hwo91]; exact (hb81.out.alloc (by omega) (.cells #[.bool false, .slice xa2 T.length xc2, .slice ya2 G.length yc2] 25))
      have zwo91 : w.heap.size ≤ wo91.heap.size := hb99.out.size
      clear hwo91 n84 l85 l86 l87 l88 l89 l90 hb81 B78 B79 L80 L82 L83 t4 t5 t6
      clear L97
      clear HO
      go_loopw [14] (fun i wr => ∃ k : Nat, k ≤ G.length ∧ i = .int .i64 k ∧ Below wo91.heap.size wo91 wr) (fun i _ => G.length - (intOf i).toNat)
      case atStart => exact ⟨0, Nat.zero_le _, rfl, Below.refl _ _⟩
      case round =>
        obtain ⟨k, hk, rfl, hBv⟩ := hrel
        have HBv : Hid (Below wo91.heap.size wo91 wr) := hBv
        have HBw : Hid (Below w.heap.size w wr) := hb99.out.trans (hBv.mono hb99.out.size)
        by_cases hlt : k < G.length
        · have lx := (B94.out.go hBv).c2
          have la := (B95.out.go hBv).c2
          have hIa := ((L98.out.is (by omega)).below hBv).1
          obtain ⟨ba, oa, rfl, _, hca⟩ := hIa.at hlt
          have ca := hca k hlt
          have hIx := ((L96.out.is (by omega)).below hBv).1
          have hkD : k + N - 1 < D.length := by rw [HTD.out]; omega
          obtain ⟨bx, ox, rfl, _, hcx⟩ := hIx.at hkD
          have cx := hcx (k + N - 1) hkD
          have hN := HO2.out k hlt
          by_cases hk0 : k = 0
          · subst hk0
            rw [show ahd1 D 0 = 0 from rfl] at hN
            obtain ⟨m, hm⟩ : ∃ m : Nat, m = 0 + N - 1 := ⟨_, rfl⟩
            rw [← hm] at cx hN
            have hm' : m + 1 ≤ N ∧ N ≤ m + 1 := by omega
            clear hm
            have hw1 : IntKind.i64.wrap (IntKind.i64.wrap (0 + (N : Int)) - 1) = (m : Int) := by rw [IntWalk.i64_in (0 + (N : Int)) (by omega), IntWalk.i64_in _ (by omega)]; omega
            have hw2 : IntKind.i64.wrap (IntKind.i64.wrap (N : Int) - 1) = (m : Int) := by rw [IntWalk.i64_in (N : Int) (by omega), IntWalk.i64_in _ (by omega)]; omega
            have hw3 : IntKind.i64.wrap ((N : Int) - 1) = (m : Int) := by rw [IntWalk.i64_in _ (by omega)]; omega
            have hw4 : (N : Int) - 1 = (m : Int) := by omega
            obtain ⟨X, hX⟩ : ∃ X, X = nth D m := ⟨_, rfl⟩
            obtain ⟨Y, hY⟩ : ∃ Y, Y = nth G 0 := ⟨_, rfl⟩
            rw [← hX] at cx hN
            rw [← hY] at ca hN
            have t3 : decide ((0 : Int) < ((0 : Nat) : Int)) = false := by simp
            have hN2 : IntKind.i64.wrap (X - 0) = Y := (IntWalk.i64_left _).trans hN
            rw [Int.sub_zero] at hN
            have t2 : (Y != Y) = false := by simp
            simp only [Nat.add_zero] at ca cx
            clear hca hcx hX hY hIa hIx hBv HO2
            go_wp2_with fail
            go_quiet (fail)
            go_wp2_with fail
            exact ⟨⟨0 + 1, by omega, by go_num, bel_drewN HBv.out _⟩, by simp [intOf]; omega⟩
          · obtain ⟨K, rfl⟩ : ∃ K : Nat, k = K + 1 := ⟨k - 1, by omega⟩
            have cK := hcx K (by omega)
            rw [show ahd1 D (K + 1) = nth D K from rfl] at hN
            obtain ⟨m, hm⟩ : ∃ m : Nat, m = K + 1 + N - 1 := ⟨_, rfl⟩
            rw [← hm] at cx hN
            have hm' : m ≤ K + N ∧ K + N ≤ m := by omega
            clear hm
            have hw1 : IntKind.i64.wrap (IntKind.i64.wrap ((K : Int) + 1 + (N : Int)) - 1) = (m : Int) := by rw [IntWalk.i64_in ((K : Int) + 1 + (N : Int)) (by omega), IntWalk.i64_in _ (by omega)]; omega
            have hw2 : IntKind.i64.wrap (IntKind.i64.wrap (((K + 1 : Nat) : Int) + (N : Int)) - 1) = (m : Int) := by rw [IntWalk.i64_in (((K + 1 : Nat) : Int) + (N : Int)) (by omega), IntWalk.i64_in _ (by omega)]; omega
            have hw3 : IntKind.i64.wrap ((K : Int) + 1 + (N : Int) - 1) = (m : Int) := by rw [IntWalk.i64_in _ (by omega)]; omega
            have hw4 : (K : Int) + 1 + (N : Int) - 1 = (m : Int) := by omega
            obtain ⟨Z, hZ⟩ : ∃ Z, Z = nth D K := ⟨_, rfl⟩
            obtain ⟨X, hX⟩ : ∃ X, X = nth D m := ⟨_, rfl⟩
            obtain ⟨Y, hY⟩ : ∃ Y, Y = nth G (K + 1) := ⟨_, rfl⟩
            rw [← hZ] at cK hN
            rw [← hX] at cx hN
            rw [← hY] at ca hN
            have t3 : decide ((0 : Int) < ((K + 1 : Nat) : Int)) = true := by simp <;> omega
            have t3' : decide ((0 : Int) < (K : Int) + 1) = true := by simp <;> omega
            have hN2 : IntKind.i64.wrap (X - Z) = Y := (IntWalk.i64_left _).trans hN
            have t2 : (Y != Y) = false := by simp
            clear hca hcx hX hY hZ hIa hIx hBv HO2
            go_wp2_with fail
            go_quiet (fail)
            go_wp2_with fail
            exact ⟨⟨K + 1 + 1, by omega, by go_num, bel_drewN HBv.out _⟩, by simp [intOf]; omega⟩
        · obtain rfl : k = G.length := by omega
          clear hlt hk
          have la := (B95.out.go HBv.out).c2
          go_wp2_with fail
          go_ret
          exact ⟨rfl, HBw.out⟩
theorem sums_ok (HSc : CSc) (HWd : CWd) (c1 : Bool) (sa1 : Option Addr) (sc1 : Nat) (sz1 : List Int) (da1 : Option Addr) (dc1 : Nat) (dz1 : List Int) (n : Int) (hn : In64 n) (w : World) (hg : HasErr w) (w8 : IsArrD w sa1 sz1 sc1 da1 dz1 dc1) (F1 : Hid (flawE c1 sz1 dz1 = 0)) (hc : c1 = false) (F2 : Hid (sz1.length = 1)) :
    Calls Tryd.prog 4 #[.agg #[.bool c1, .slice sa1 sz1.length sc1, .slice da1 dz1.length dc1], .int .i64 n] w fun e w' => e = .returned (.bool true) ∧ Below w.heap.size w w' := by
  by_cases h : n < 1 ∨ (dz1.length : Int) < n
  · exact sums_bad HSc HWd c1 sa1 sc1 sz1 da1 dc1 dz1 n hn w hg w8 F1 hc F2 h
  · obtain ⟨N, rfl⟩ : ∃ N : Nat, n = (N : Int) := ⟨n.toNat, by omega⟩
    exact sums_fine HSc HWd c1 sa1 sc1 sz1 da1 dc1 dz1 N w hg w8 F1 hc F2 (show 1 ≤ N ∧ N ≤ dz1.length by omega)
theorem fsums_walk (HSc : CSc) (HWd : CWd) (c1 : Bool) (sa1 : Option Addr) (sc1 : Nat) (sz1 : List Int) (da1 : Option Addr) (dc1 : Nat) (dz1 : List Int) (n : Int) (hn : In64 n) (w : World) (hg : HasErr w) (w8 : IsArrD w sa1 sz1 sc1 da1 dz1 dc1) :
    Calls Tryd.prog 4 #[.agg #[.bool c1, .slice sa1 sz1.length sc1, .slice da1 dz1.length dc1], .int .i64 n] w fun e w' => e = .returned (.bool true) ∧ Below w.heap.size w w' := by
  by_cases h1 : flawE c1 sz1 dz1 = 0
  · by_cases hc : c1 = true
    · exact sums_char HSc HWd c1 sa1 sc1 sz1 da1 dc1 dz1 n hn w hg w8 h1 hc
    · by_cases h2 : sz1.length = 1
      · exact sums_ok HSc HWd c1 sa1 sc1 sz1 da1 dc1 dz1 n hn w hg w8 h1 (by simpa using hc) h2
      · exact sums_rank HSc HWd c1 sa1 sc1 sz1 da1 dc1 dz1 n hn w hg w8 h1 (by simpa using hc) h2
  · exact sums_flaw HSc HWd c1 sa1 sc1 sz1 da1 dc1 dz1 n hn w hg w8 h1
end Go.Proofs.YtmbgomljofngnacDoor
