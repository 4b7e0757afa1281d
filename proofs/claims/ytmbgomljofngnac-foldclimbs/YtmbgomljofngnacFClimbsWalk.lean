/-
  The walk of the statement FoldClimbs, given what the program tells.
-/
import Derived.BigQuiet
import Derived.Test.YtmbgomljofngnacFldx
import Derived.Test.YtmbgomljofngnacMidc
import Derived.Test.YtmbgomljofngnacSarr
namespace Go.Proofs.Ytmbgomljofngnac
open Go.RowKit
set_option linter.unusedVariables false

set_option maxRecDepth 100000 in
set_option maxHeartbeats 8000000 in
theorem climbs_flaw (HSc : CSc) (c1 : Bool) (sa1 : Option Addr) (sc1 : Nat) (sz1 : List Int) (da1 : Option Addr) (dc1 : Nat) (dz1 : List Int) (w : World) (w8 : IsArrD w sa1 sz1 sc1 da1 dz1 dc1) (F1 : Hid (flawE c1 sz1 dz1 ≠ 0)) :
    Calls Try.prog 5 #[.agg #[.bool c1, .slice sa1 sz1.length sc1, .slice da1 dz1.length dc1]] w fun e w' => e = .returned (.bool true) ∧ Below w.heap.size w w' := by
  obtain ⟨x11, x12, x3, x4, s64, T⟩ := w8
  have HI1 : Hid (IsC w.heap.size w sa1 sz1 sc1 ∧ IsC w.heap.size w da1 dz1 dc1 ∧ (∀ j, In64 (nth sz1 j)) ∧ ∀ j, In64 (nth dz1 j)) := ⟨x3, x4, s64, T⟩
  clear x3 x4 T s64
  have n1 := Abx.new w (.bool c1) (.slice sa1 sz1.length sc1) (.slice da1 dz1.length dc1)
  have n2 := lit_mid (w.alloc (.cells #[.bool c1, .slice sa1 sz1.length sc1, .slice da1 dz1.length dc1] 25)) 3 [2, 7, 4] 3 rfl
  simp only [World.size_alloc, List.map_cons, List.map_nil] at n2
  go_enter Try.func5, Try.ntmps5
  go_wp2_with fail
  obtain ⟨wo3, hwo3⟩ : ∃ wo3, wo3 = ((w.alloc (.cells #[.bool c1, .slice sa1 sz1.length sc1, .slice da1 dz1.length dc1] 25)).alloc (.cells #[.int .i64 2, .int .i64 7, .int .i64 4] 3)) := ⟨_, rfl⟩
  rw [← hwo3]
  have z4 : w.heap.size + 1 + 1 ≤ wo3.heap.size := by rw [hwo3]; simp only [World.size_alloc]; omega
  have B5 : Hid (Abx wo3 (w.heap.size) (.bool c1) (.slice sa1 sz1.length sc1) (.slice da1 dz1.length dc1)) := by rw [hwo3]; exact (n1.al (.cells #[.int .i64 2, .int .i64 7, .int .i64 4] 3))
  have L6 : Hid (MidC (w.heap.size + 1) (w.heap.size + 1 + 1) wo3 (some ⟨w.heap.size + 1, 0, none⟩) ([2, 7, 4]) (3)) := by rw [hwo3]; exact n2
  have hb7 : Hid (Below w.heap.size w wo3) := by rw [hwo3]; exact (((Below.refl w.heap.size w).alloc (by omega) (.cells #[.bool c1, .slice sa1 sz1.length sc1, .slice da1 dz1.length dc1] 25)).alloc (by simp only [World.size_alloc]; omega) (.cells #[.int .i64 2, .int .i64 7, .int .i64 4] 3))
  have zwo3 : w.heap.size ≤ wo3.heap.size := hb7.out.size
  clear hwo3 n1 n2
  refine (vec_c (some ⟨w.heap.size + 1, 0, none⟩) 3 [2, 7, 4] (by simp) _ (L6.out.is (by omega)).1).mono ?_
  rintro e v1 ⟨vap, vcp, gap, gcp, rfl, hVp, hGp, hB⟩
  have z8 : wo3.heap.size ≤ v1.heap.size := hB.size
  have B9 : Hid (Abx v1 (w.heap.size) (.bool c1) (.slice sa1 sz1.length sc1) (.slice da1 dz1.length dc1)) := B5.out.go hB
  have L10 : Hid (MidC (w.heap.size + 1) (w.heap.size + 1 + 1) v1 (some ⟨w.heap.size + 1, 0, none⟩) ([2, 7, 4]) (3)) := L6.out.go (by omega) hB
  have hb11 : Hid (Below w.heap.size w v1) := hb7.out.trans (hB.mono hb7.out.size)
  have L12 : Hid (MidC (wo3.heap.size) (v1.heap.size) v1 (vap) ([(3 : Int)]) (vcp)) := hVp.midc
  have L13 : Hid (MidC (wo3.heap.size) (v1.heap.size) v1 (gap) ([2, 7, 4]) (gcp)) := hGp.midc
  clear hB hb7 B5 L6 hVp hGp
  clear L10
  go_wp2_with fail
  refine (scw_ok 6 0 false vap vcp [(3 : Int)] 1 rfl gap gcp [2, 7, 4] 3 rfl _ (by unfold In64; decide) (by unfold In64; decide) (by decide) (by decide) (L12.out.is (by omega)) (L13.out.is (by omega)).1 (lit12 (by decide)) [3] [2, 7, 7] HSc (by show scE 6 0 false [(3 : Int)] [2, 7, 4] = 0 ∧ [(3 : Int)] = [3] ∧ scD 6 [(3 : Int)] [2, 7, 4] (0 : Int).toNat = [2, 7, 7]; decide +kernel)).mono ?_
  rintro e v2 ⟨f1, g1, f2, g2, rfl, hX0, hY0, hB⟩
  have z14 : v1.heap.size ≤ v2.heap.size := hB.size
  have B15 : Hid (Abx v2 (w.heap.size) (.bool c1) (.slice sa1 sz1.length sc1) (.slice da1 dz1.length dc1)) := B9.out.go hB
  have L16 : Hid (MidC (wo3.heap.size) (v1.heap.size) v2 (vap) ([(3 : Int)]) (vcp)) := L12.out.go (by omega) hB
  have L17 : Hid (MidC (wo3.heap.size) (v1.heap.size) v2 (gap) ([2, 7, 4]) (gcp)) := L13.out.go (by omega) hB
  have hb18 : Hid (Below w.heap.size w v2) := hb11.out.trans (hB.mono hb11.out.size)
  have L19 : Hid (MidC (v1.heap.size) (v2.heap.size) v2 (f1) ([3]) (g1)) := hX0.midc
  have L20 : Hid (MidC (v1.heap.size) (v2.heap.size) v2 (f2) ([2, 7, 7]) (g2)) := hY0.midc
  clear hB hb11 B9 L12 L13 hX0 hY0
  clear L16 L17
  have n21 := Abx.new v2 (.bool false) (.slice f1 1 g1) (.slice f2 3 g2)
  have l22 := (n21).c0
  have l23 := (n21).c1
  have l24 := (n21).c2
  have n25 := lit_mid (v2.alloc (.cells #[.bool false, .slice f1 1 g1, .slice f2 3 g2] 25)) 3 [2, 7, 7] 3 rfl
  simp only [World.size_alloc, List.map_cons, List.map_nil] at n25
  go_wp2_with fail
  obtain ⟨wo26, hwo26⟩ : ∃ wo26, wo26 = ((v2.alloc (.cells #[.bool false, .slice f1 1 g1, .slice f2 3 g2] 25)).alloc (.cells #[.int .i64 2, .int .i64 7, .int .i64 7] 3)) := ⟨_, rfl⟩
  rw [← hwo26]
  have z27 : v2.heap.size + 1 + 1 ≤ wo26.heap.size := by rw [hwo26]; simp only [World.size_alloc]; omega
  have B28 : Hid (Abx wo26 (w.heap.size) (.bool c1) (.slice sa1 sz1.length sc1) (.slice da1 dz1.length dc1)) := by rw [hwo26]; exact ((B15.out.al (.cells #[.bool false, .slice f1 1 g1, .slice f2 3 g2] 25)).al (.cells #[.int .i64 2, .int .i64 7, .int .i64 7] 3))
  have B29 : Hid (Abx wo26 (v2.heap.size) (.bool false) (.slice f1 1 g1) (.slice f2 3 g2)) := by rw [hwo26]; exact (n21.al (.cells #[.int .i64 2, .int .i64 7, .int .i64 7] 3))
  have L30 : Hid (MidC (v1.heap.size) (v2.heap.size) wo26 (f1) ([3]) (g1)) := by rw [hwo26]; exact ((L19.out.al (by omega) (.cells #[.bool false, .slice f1 1 g1, .slice f2 3 g2] 25)).al (by simp only [World.size_alloc]; omega) (.cells #[.int .i64 2, .int .i64 7, .int .i64 7] 3))
  have L31 : Hid (MidC (v1.heap.size) (v2.heap.size) wo26 (f2) ([2, 7, 7]) (g2)) := by rw [hwo26]; exact ((L20.out.al (by omega) (.cells #[.bool false, .slice f1 1 g1, .slice f2 3 g2] 25)).al (by simp only [World.size_alloc]; omega) (.cells #[.int .i64 2, .int .i64 7, .int .i64 7] 3))
  have L32 : Hid (MidC (v2.heap.size + 1) (v2.heap.size + 1 + 1) wo26 (some ⟨v2.heap.size + 1, 0, none⟩) ([2, 7, 7]) (3)) := by rw [hwo26]; exact n25
  have hb33 : Hid (Below w.heap.size w wo26) := by rw [hwo26]; exact ((hb18.out.alloc (by omega) (.cells #[.bool false, .slice f1 1 g1, .slice f2 3 g2] 25)).alloc (by simp only [World.size_alloc]; omega) (.cells #[.int .i64 2, .int .i64 7, .int .i64 7] 3))
  have zwo26 : w.heap.size ≤ wo26.heap.size := hb33.out.size
  clear hwo26 n21 l22 l23 l24 n25 hb18 B15 L19 L20
  refine (ints_any f2 g2 [2, 7, 7] (some ⟨v2.heap.size + 1, 0, none⟩) 3 [2, 7, 7] (by simp) _ _ (L31.out.is (by omega)).1 (L32.out.is (by omega)).1).mono ?_
  rintro e v3 ⟨rfl, hB⟩
  have z34 : wo26.heap.size ≤ v3.heap.size := hB.size
  have B35 : Hid (Abx v3 (w.heap.size) (.bool c1) (.slice sa1 sz1.length sc1) (.slice da1 dz1.length dc1)) := B28.out.go hB
  have B36 : Hid (Abx v3 (v2.heap.size) (.bool false) (.slice f1 1 g1) (.slice f2 3 g2)) := B29.out.go hB
  have L37 : Hid (MidC (v1.heap.size) (v2.heap.size) v3 (f1) ([3]) (g1)) := L30.out.go (by omega) hB
  have L38 : Hid (MidC (v1.heap.size) (v2.heap.size) v3 (f2) ([2, 7, 7]) (g2)) := L31.out.go (by omega) hB
  have L39 : Hid (MidC (v2.heap.size + 1) (v2.heap.size + 1 + 1) v3 (some ⟨v2.heap.size + 1, 0, none⟩) ([2, 7, 7]) (3)) := L32.out.go (by omega) hB
  have hb40 : Hid (Below w.heap.size w v3) := hb33.out.trans (hB.mono hb33.out.size)
  clear hB hb33 B28 B29 L30 L31 L32
  rw [eqB_true rfl]
  clear L37 L38 L39 B36
  have l41 := (B35.out).c0
  have l42 := (B35.out).c1
  have l43 := (B35.out).c2
  go_wp2_with fail
  clear l41 l42 l43
  refine (check_no c1 sa1 sc1 sz1 da1 dc1 dz1 x11 x12 _ ((HI1.out.1.1.below hb40.out).mono hb40.out.size) ((HI1.out.2.1.1.below hb40.out).mono hb40.out.size) F1.out).mono ?_
  rintro e v4 ⟨rfl, hB⟩
  have z44 : v3.heap.size ≤ v4.heap.size := hB.size
  have B45 : Hid (Abx v4 (w.heap.size) (.bool c1) (.slice sa1 sz1.length sc1) (.slice da1 dz1.length dc1)) := B35.out.go hB
  have hb46 : Hid (Below w.heap.size w v4) := hb40.out.trans (hB.mono hb40.out.size)
  clear hB hb40 B35
  go_wp2_with fail
  go_ret
  exact ⟨rfl, hb46.out⟩
set_option maxRecDepth 100000 in
set_option maxHeartbeats 8000000 in
theorem climbs_char (HSc : CSc) (c1 : Bool) (sa1 : Option Addr) (sc1 : Nat) (sz1 : List Int) (da1 : Option Addr) (dc1 : Nat) (dz1 : List Int) (w : World) (w8 : IsArrD w sa1 sz1 sc1 da1 dz1 dc1) (F1 : Hid (flawE c1 sz1 dz1 = 0)) (hc : c1 = true) :
    Calls Try.prog 5 #[.agg #[.bool c1, .slice sa1 sz1.length sc1, .slice da1 dz1.length dc1]] w fun e w' => e = .returned (.bool true) ∧ Below w.heap.size w w' := by
  subst hc
  obtain ⟨x11, x12, x3, x4, s64, T⟩ := w8
  have HI1 : Hid (IsC w.heap.size w sa1 sz1 sc1 ∧ IsC w.heap.size w da1 dz1 dc1 ∧ (∀ j, In64 (nth sz1 j)) ∧ ∀ j, In64 (nth dz1 j)) := ⟨x3, x4, s64, T⟩
  clear x3 x4 T s64
  have n1 := Abx.new w (.bool true) (.slice sa1 sz1.length sc1) (.slice da1 dz1.length dc1)
  have n2 := lit_mid (w.alloc (.cells #[.bool true, .slice sa1 sz1.length sc1, .slice da1 dz1.length dc1] 25)) 3 [2, 7, 4] 3 rfl
  simp only [World.size_alloc, List.map_cons, List.map_nil] at n2
  go_enter Try.func5, Try.ntmps5
  go_wp2_with fail
  obtain ⟨wo3, hwo3⟩ : ∃ wo3, wo3 = ((w.alloc (.cells #[.bool true, .slice sa1 sz1.length sc1, .slice da1 dz1.length dc1] 25)).alloc (.cells #[.int .i64 2, .int .i64 7, .int .i64 4] 3)) := ⟨_, rfl⟩
  rw [← hwo3]
  have z4 : w.heap.size + 1 + 1 ≤ wo3.heap.size := by rw [hwo3]; simp only [World.size_alloc]; omega
  have B5 : Hid (Abx wo3 (w.heap.size) (.bool true) (.slice sa1 sz1.length sc1) (.slice da1 dz1.length dc1)) := by rw [hwo3]; exact (n1.al (.cells #[.int .i64 2, .int .i64 7, .int .i64 4] 3))
  have L6 : Hid (MidC (w.heap.size + 1) (w.heap.size + 1 + 1) wo3 (some ⟨w.heap.size + 1, 0, none⟩) ([2, 7, 4]) (3)) := by rw [hwo3]; exact n2
  have hb7 : Hid (Below w.heap.size w wo3) := by rw [hwo3]; exact (((Below.refl w.heap.size w).alloc (by omega) (.cells #[.bool true, .slice sa1 sz1.length sc1, .slice da1 dz1.length dc1] 25)).alloc (by simp only [World.size_alloc]; omega) (.cells #[.int .i64 2, .int .i64 7, .int .i64 4] 3))
  have zwo3 : w.heap.size ≤ wo3.heap.size := hb7.out.size
  clear hwo3 n1 n2
  refine (vec_c (some ⟨w.heap.size + 1, 0, none⟩) 3 [2, 7, 4] (by simp) _ (L6.out.is (by omega)).1).mono ?_
  rintro e v1 ⟨vap, vcp, gap, gcp, rfl, hVp, hGp, hB⟩
  have z8 : wo3.heap.size ≤ v1.heap.size := hB.size
  have B9 : Hid (Abx v1 (w.heap.size) (.bool true) (.slice sa1 sz1.length sc1) (.slice da1 dz1.length dc1)) := B5.out.go hB
  have L10 : Hid (MidC (w.heap.size + 1) (w.heap.size + 1 + 1) v1 (some ⟨w.heap.size + 1, 0, none⟩) ([2, 7, 4]) (3)) := L6.out.go (by omega) hB
  have hb11 : Hid (Below w.heap.size w v1) := hb7.out.trans (hB.mono hb7.out.size)
  have L12 : Hid (MidC (wo3.heap.size) (v1.heap.size) v1 (vap) ([(3 : Int)]) (vcp)) := hVp.midc
  have L13 : Hid (MidC (wo3.heap.size) (v1.heap.size) v1 (gap) ([2, 7, 4]) (gcp)) := hGp.midc
  clear hB hb7 B5 L6 hVp hGp
  clear L10
  go_wp2_with fail
  refine (scw_ok 6 0 false vap vcp [(3 : Int)] 1 rfl gap gcp [2, 7, 4] 3 rfl _ (by unfold In64; decide) (by unfold In64; decide) (by decide) (by decide) (L12.out.is (by omega)) (L13.out.is (by omega)).1 (lit12 (by decide)) [3] [2, 7, 7] HSc (by show scE 6 0 false [(3 : Int)] [2, 7, 4] = 0 ∧ [(3 : Int)] = [3] ∧ scD 6 [(3 : Int)] [2, 7, 4] (0 : Int).toNat = [2, 7, 7]; decide +kernel)).mono ?_
  rintro e v2 ⟨f1, g1, f2, g2, rfl, hX0, hY0, hB⟩
  have z14 : v1.heap.size ≤ v2.heap.size := hB.size
  have B15 : Hid (Abx v2 (w.heap.size) (.bool true) (.slice sa1 sz1.length sc1) (.slice da1 dz1.length dc1)) := B9.out.go hB
  have L16 : Hid (MidC (wo3.heap.size) (v1.heap.size) v2 (vap) ([(3 : Int)]) (vcp)) := L12.out.go (by omega) hB
  have L17 : Hid (MidC (wo3.heap.size) (v1.heap.size) v2 (gap) ([2, 7, 4]) (gcp)) := L13.out.go (by omega) hB
  have hb18 : Hid (Below w.heap.size w v2) := hb11.out.trans (hB.mono hb11.out.size)
  have L19 : Hid (MidC (v1.heap.size) (v2.heap.size) v2 (f1) ([3]) (g1)) := hX0.midc
  have L20 : Hid (MidC (v1.heap.size) (v2.heap.size) v2 (f2) ([2, 7, 7]) (g2)) := hY0.midc
  clear hB hb11 B9 L12 L13 hX0 hY0
  clear L16 L17
  have n21 := Abx.new v2 (.bool false) (.slice f1 1 g1) (.slice f2 3 g2)
  have l22 := (n21).c0
  have l23 := (n21).c1
  have l24 := (n21).c2
  have n25 := lit_mid (v2.alloc (.cells #[.bool false, .slice f1 1 g1, .slice f2 3 g2] 25)) 3 [2, 7, 7] 3 rfl
  simp only [World.size_alloc, List.map_cons, List.map_nil] at n25
  go_wp2_with fail
  obtain ⟨wo26, hwo26⟩ : ∃ wo26, wo26 = ((v2.alloc (.cells #[.bool false, .slice f1 1 g1, .slice f2 3 g2] 25)).alloc (.cells #[.int .i64 2, .int .i64 7, .int .i64 7] 3)) := ⟨_, rfl⟩
  rw [← hwo26]
  have z27 : v2.heap.size + 1 + 1 ≤ wo26.heap.size := by rw [hwo26]; simp only [World.size_alloc]; omega
  have B28 : Hid (Abx wo26 (w.heap.size) (.bool true) (.slice sa1 sz1.length sc1) (.slice da1 dz1.length dc1)) := by rw [hwo26]; exact ((B15.out.al (.cells #[.bool false, .slice f1 1 g1, .slice f2 3 g2] 25)).al (.cells #[.int .i64 2, .int .i64 7, .int .i64 7] 3))
  have B29 : Hid (Abx wo26 (v2.heap.size) (.bool false) (.slice f1 1 g1) (.slice f2 3 g2)) := by rw [hwo26]; exact (n21.al (.cells #[.int .i64 2, .int .i64 7, .int .i64 7] 3))
  have L30 : Hid (MidC (v1.heap.size) (v2.heap.size) wo26 (f1) ([3]) (g1)) := by rw [hwo26]; exact ((L19.out.al (by omega) (.cells #[.bool false, .slice f1 1 g1, .slice f2 3 g2] 25)).al (by simp only [World.size_alloc]; omega) (.cells #[.int .i64 2, .int .i64 7, .int .i64 7] 3))
  have L31 : Hid (MidC (v1.heap.size) (v2.heap.size) wo26 (f2) ([2, 7, 7]) (g2)) := by rw [hwo26]; exact ((L20.out.al (by omega) (.cells #[.bool false, .slice f1 1 g1, .slice f2 3 g2] 25)).al (by simp only [World.size_alloc]; omega) (.cells #[.int .i64 2, .int .i64 7, .int .i64 7] 3))
  have L32 : Hid (MidC (v2.heap.size + 1) (v2.heap.size + 1 + 1) wo26 (some ⟨v2.heap.size + 1, 0, none⟩) ([2, 7, 7]) (3)) := by rw [hwo26]; exact n25
  have hb33 : Hid (Below w.heap.size w wo26) := by rw [hwo26]; exact ((hb18.out.alloc (by omega) (.cells #[.bool false, .slice f1 1 g1, .slice f2 3 g2] 25)).alloc (by simp only [World.size_alloc]; omega) (.cells #[.int .i64 2, .int .i64 7, .int .i64 7] 3))
  have zwo26 : w.heap.size ≤ wo26.heap.size := hb33.out.size
  clear hwo26 n21 l22 l23 l24 n25 hb18 B15 L19 L20
  refine (ints_any f2 g2 [2, 7, 7] (some ⟨v2.heap.size + 1, 0, none⟩) 3 [2, 7, 7] (by simp) _ _ (L31.out.is (by omega)).1 (L32.out.is (by omega)).1).mono ?_
  rintro e v3 ⟨rfl, hB⟩
  have z34 : wo26.heap.size ≤ v3.heap.size := hB.size
  have B35 : Hid (Abx v3 (w.heap.size) (.bool true) (.slice sa1 sz1.length sc1) (.slice da1 dz1.length dc1)) := B28.out.go hB
  have B36 : Hid (Abx v3 (v2.heap.size) (.bool false) (.slice f1 1 g1) (.slice f2 3 g2)) := B29.out.go hB
  have L37 : Hid (MidC (v1.heap.size) (v2.heap.size) v3 (f1) ([3]) (g1)) := L30.out.go (by omega) hB
  have L38 : Hid (MidC (v1.heap.size) (v2.heap.size) v3 (f2) ([2, 7, 7]) (g2)) := L31.out.go (by omega) hB
  have L39 : Hid (MidC (v2.heap.size + 1) (v2.heap.size + 1 + 1) v3 (some ⟨v2.heap.size + 1, 0, none⟩) ([2, 7, 7]) (3)) := L32.out.go (by omega) hB
  have hb40 : Hid (Below w.heap.size w v3) := hb33.out.trans (hB.mono hb33.out.size)
  clear hB hb33 B28 B29 L30 L31 L32
  rw [eqB_true rfl]
  clear L37 L38 L39 B36
  have l41 := (B35.out).c0
  have l42 := (B35.out).c1
  have l43 := (B35.out).c2
  go_wp2_with fail
  clear l41 l42 l43
  refine (check_ok true sa1 sc1 sz1 da1 dc1 dz1 x11 x12 _ ((HI1.out.1.1.below hb40.out).mono hb40.out.size) ((HI1.out.2.1.1.below hb40.out).mono hb40.out.size) F1.out).mono ?_
  rintro e v4 ⟨rfl, hB⟩
  have z44 : v3.heap.size ≤ v4.heap.size := hB.size
  have B45 : Hid (Abx v4 (w.heap.size) (.bool true) (.slice sa1 sz1.length sc1) (.slice da1 dz1.length dc1)) := B35.out.go hB
  have hb46 : Hid (Below w.heap.size w v4) := hb40.out.trans (hB.mono hb40.out.size)
  clear hB hb40 B35
  have l0 := B45.out.c0
  go_wp2_with fail
  go_ret
  exact ⟨rfl, hb46.out⟩
set_option maxRecDepth 100000 in
set_option maxHeartbeats 8000000 in
theorem climbs_rank (HSc : CSc) (c1 : Bool) (sa1 : Option Addr) (sc1 : Nat) (sz1 : List Int) (da1 : Option Addr) (dc1 : Nat) (dz1 : List Int) (w : World) (w8 : IsArrD w sa1 sz1 sc1 da1 dz1 dc1) (F1 : Hid (flawE c1 sz1 dz1 = 0)) (hc : c1 = false) (F2 : Hid (sz1.length ≠ 1)) :
    Calls Try.prog 5 #[.agg #[.bool c1, .slice sa1 sz1.length sc1, .slice da1 dz1.length dc1]] w fun e w' => e = .returned (.bool true) ∧ Below w.heap.size w w' := by
  subst hc
  have t1 : ((sz1.length : Int) != 1) = true := by have := F2.out; simp; omega
  obtain ⟨x11, x12, x3, x4, s64, T⟩ := w8
  have HI1 : Hid (IsC w.heap.size w sa1 sz1 sc1 ∧ IsC w.heap.size w da1 dz1 dc1 ∧ (∀ j, In64 (nth sz1 j)) ∧ ∀ j, In64 (nth dz1 j)) := ⟨x3, x4, s64, T⟩
  clear x3 x4 T s64
  have n1 := Abx.new w (.bool false) (.slice sa1 sz1.length sc1) (.slice da1 dz1.length dc1)
  have n2 := lit_mid (w.alloc (.cells #[.bool false, .slice sa1 sz1.length sc1, .slice da1 dz1.length dc1] 25)) 3 [2, 7, 4] 3 rfl
  simp only [World.size_alloc, List.map_cons, List.map_nil] at n2
  go_enter Try.func5, Try.ntmps5
  go_wp2_with fail
  obtain ⟨wo3, hwo3⟩ : ∃ wo3, wo3 = ((w.alloc (.cells #[.bool false, .slice sa1 sz1.length sc1, .slice da1 dz1.length dc1] 25)).alloc (.cells #[.int .i64 2, .int .i64 7, .int .i64 4] 3)) := ⟨_, rfl⟩
  rw [← hwo3]
  have z4 : w.heap.size + 1 + 1 ≤ wo3.heap.size := by rw [hwo3]; simp only [World.size_alloc]; omega
  have B5 : Hid (Abx wo3 (w.heap.size) (.bool false) (.slice sa1 sz1.length sc1) (.slice da1 dz1.length dc1)) := by rw [hwo3]; exact (n1.al (.cells #[.int .i64 2, .int .i64 7, .int .i64 4] 3))
  have L6 : Hid (MidC (w.heap.size + 1) (w.heap.size + 1 + 1) wo3 (some ⟨w.heap.size + 1, 0, none⟩) ([2, 7, 4]) (3)) := by rw [hwo3]; exact n2
  have hb7 : Hid (Below w.heap.size w wo3) := by rw [hwo3]; exact (((Below.refl w.heap.size w).alloc (by omega) (.cells #[.bool false, .slice sa1 sz1.length sc1, .slice da1 dz1.length dc1] 25)).alloc (by simp only [World.size_alloc]; omega) (.cells #[.int .i64 2, .int .i64 7, .int .i64 4] 3))
  have zwo3 : w.heap.size ≤ wo3.heap.size := hb7.out.size
  clear hwo3 n1 n2
  refine (vec_c (some ⟨w.heap.size + 1, 0, none⟩) 3 [2, 7, 4] (by simp) _ (L6.out.is (by omega)).1).mono ?_
  rintro e v1 ⟨vap, vcp, gap, gcp, rfl, hVp, hGp, hB⟩
  have z8 : wo3.heap.size ≤ v1.heap.size := hB.size
  have B9 : Hid (Abx v1 (w.heap.size) (.bool false) (.slice sa1 sz1.length sc1) (.slice da1 dz1.length dc1)) := B5.out.go hB
  have L10 : Hid (MidC (w.heap.size + 1) (w.heap.size + 1 + 1) v1 (some ⟨w.heap.size + 1, 0, none⟩) ([2, 7, 4]) (3)) := L6.out.go (by omega) hB
  have hb11 : Hid (Below w.heap.size w v1) := hb7.out.trans (hB.mono hb7.out.size)
  have L12 : Hid (MidC (wo3.heap.size) (v1.heap.size) v1 (vap) ([(3 : Int)]) (vcp)) := hVp.midc
  have L13 : Hid (MidC (wo3.heap.size) (v1.heap.size) v1 (gap) ([2, 7, 4]) (gcp)) := hGp.midc
  clear hB hb7 B5 L6 hVp hGp
  clear L10
  go_wp2_with fail
  refine (scw_ok 6 0 false vap vcp [(3 : Int)] 1 rfl gap gcp [2, 7, 4] 3 rfl _ (by unfold In64; decide) (by unfold In64; decide) (by decide) (by decide) (L12.out.is (by omega)) (L13.out.is (by omega)).1 (lit12 (by decide)) [3] [2, 7, 7] HSc (by show scE 6 0 false [(3 : Int)] [2, 7, 4] = 0 ∧ [(3 : Int)] = [3] ∧ scD 6 [(3 : Int)] [2, 7, 4] (0 : Int).toNat = [2, 7, 7]; decide +kernel)).mono ?_
  rintro e v2 ⟨f1, g1, f2, g2, rfl, hX0, hY0, hB⟩
  have z14 : v1.heap.size ≤ v2.heap.size := hB.size
  have B15 : Hid (Abx v2 (w.heap.size) (.bool false) (.slice sa1 sz1.length sc1) (.slice da1 dz1.length dc1)) := B9.out.go hB
  have L16 : Hid (MidC (wo3.heap.size) (v1.heap.size) v2 (vap) ([(3 : Int)]) (vcp)) := L12.out.go (by omega) hB
  have L17 : Hid (MidC (wo3.heap.size) (v1.heap.size) v2 (gap) ([2, 7, 4]) (gcp)) := L13.out.go (by omega) hB
  have hb18 : Hid (Below w.heap.size w v2) := hb11.out.trans (hB.mono hb11.out.size)
  have L19 : Hid (MidC (v1.heap.size) (v2.heap.size) v2 (f1) ([3]) (g1)) := hX0.midc
  have L20 : Hid (MidC (v1.heap.size) (v2.heap.size) v2 (f2) ([2, 7, 7]) (g2)) := hY0.midc
  clear hB hb11 B9 L12 L13 hX0 hY0
  clear L16 L17
  have n21 := Abx.new v2 (.bool false) (.slice f1 1 g1) (.slice f2 3 g2)
  have l22 := (n21).c0
  have l23 := (n21).c1
  have l24 := (n21).c2
  have n25 := lit_mid (v2.alloc (.cells #[.bool false, .slice f1 1 g1, .slice f2 3 g2] 25)) 3 [2, 7, 7] 3 rfl
  simp only [World.size_alloc, List.map_cons, List.map_nil] at n25
  go_wp2_with fail
  obtain ⟨wo26, hwo26⟩ : ∃ wo26, wo26 = ((v2.alloc (.cells #[.bool false, .slice f1 1 g1, .slice f2 3 g2] 25)).alloc (.cells #[.int .i64 2, .int .i64 7, .int .i64 7] 3)) := ⟨_, rfl⟩
  rw [← hwo26]
  have z27 : v2.heap.size + 1 + 1 ≤ wo26.heap.size := by rw [hwo26]; simp only [World.size_alloc]; omega
  have B28 : Hid (Abx wo26 (w.heap.size) (.bool false) (.slice sa1 sz1.length sc1) (.slice da1 dz1.length dc1)) := by rw [hwo26]; exact ((B15.out.al (.cells #[.bool false, .slice f1 1 g1, .slice f2 3 g2] 25)).al (.cells #[.int .i64 2, .int .i64 7, .int .i64 7] 3))
  have B29 : Hid (Abx wo26 (v2.heap.size) (.bool false) (.slice f1 1 g1) (.slice f2 3 g2)) := by rw [hwo26]; exact (n21.al (.cells #[.int .i64 2, .int .i64 7, .int .i64 7] 3))
  have L30 : Hid (MidC (v1.heap.size) (v2.heap.size) wo26 (f1) ([3]) (g1)) := by rw [hwo26]; exact ((L19.out.al (by omega) (.cells #[.bool false, .slice f1 1 g1, .slice f2 3 g2] 25)).al (by simp only [World.size_alloc]; omega) (.cells #[.int .i64 2, .int .i64 7, .int .i64 7] 3))
  have L31 : Hid (MidC (v1.heap.size) (v2.heap.size) wo26 (f2) ([2, 7, 7]) (g2)) := by rw [hwo26]; exact ((L20.out.al (by omega) (.cells #[.bool false, .slice f1 1 g1, .slice f2 3 g2] 25)).al (by simp only [World.size_alloc]; omega) (.cells #[.int .i64 2, .int .i64 7, .int .i64 7] 3))
  have L32 : Hid (MidC (v2.heap.size + 1) (v2.heap.size + 1 + 1) wo26 (some ⟨v2.heap.size + 1, 0, none⟩) ([2, 7, 7]) (3)) := by rw [hwo26]; exact n25
  have hb33 : Hid (Below w.heap.size w wo26) := by rw [hwo26]; exact ((hb18.out.alloc (by omega) (.cells #[.bool false, .slice f1 1 g1, .slice f2 3 g2] 25)).alloc (by simp only [World.size_alloc]; omega) (.cells #[.int .i64 2, .int .i64 7, .int .i64 7] 3))
  have zwo26 : w.heap.size ≤ wo26.heap.size := hb33.out.size
  clear hwo26 n21 l22 l23 l24 n25 hb18 B15 L19 L20
  refine (ints_any f2 g2 [2, 7, 7] (some ⟨v2.heap.size + 1, 0, none⟩) 3 [2, 7, 7] (by simp) _ _ (L31.out.is (by omega)).1 (L32.out.is (by omega)).1).mono ?_
  rintro e v3 ⟨rfl, hB⟩
  have z34 : wo26.heap.size ≤ v3.heap.size := hB.size
  have B35 : Hid (Abx v3 (w.heap.size) (.bool false) (.slice sa1 sz1.length sc1) (.slice da1 dz1.length dc1)) := B28.out.go hB
  have B36 : Hid (Abx v3 (v2.heap.size) (.bool false) (.slice f1 1 g1) (.slice f2 3 g2)) := B29.out.go hB
  have L37 : Hid (MidC (v1.heap.size) (v2.heap.size) v3 (f1) ([3]) (g1)) := L30.out.go (by omega) hB
  have L38 : Hid (MidC (v1.heap.size) (v2.heap.size) v3 (f2) ([2, 7, 7]) (g2)) := L31.out.go (by omega) hB
  have L39 : Hid (MidC (v2.heap.size + 1) (v2.heap.size + 1 + 1) v3 (some ⟨v2.heap.size + 1, 0, none⟩) ([2, 7, 7]) (3)) := L32.out.go (by omega) hB
  have hb40 : Hid (Below w.heap.size w v3) := hb33.out.trans (hB.mono hb33.out.size)
  clear hB hb33 B28 B29 L30 L31 L32
  rw [eqB_true rfl]
  clear L37 L38 L39 B36
  have l41 := (B35.out).c0
  have l42 := (B35.out).c1
  have l43 := (B35.out).c2
  go_wp2_with fail
  clear l41 l42 l43
  refine (check_ok false sa1 sc1 sz1 da1 dc1 dz1 x11 x12 _ ((HI1.out.1.1.below hb40.out).mono hb40.out.size) ((HI1.out.2.1.1.below hb40.out).mono hb40.out.size) F1.out).mono ?_
  rintro e v4 ⟨rfl, hB⟩
  have z44 : v3.heap.size ≤ v4.heap.size := hB.size
  have B45 : Hid (Abx v4 (w.heap.size) (.bool false) (.slice sa1 sz1.length sc1) (.slice da1 dz1.length dc1)) := B35.out.go hB
  have hb46 : Hid (Below w.heap.size w v4) := hb40.out.trans (hB.mono hb40.out.size)
  clear hB hb40 B35
  have l0 := B45.out.c0
  have l1 := B45.out.c1
  go_wp2_with fail
  go_ret
  exact ⟨rfl, hb46.out⟩
set_option maxRecDepth 100000 in
set_option maxHeartbeats 8000000 in
theorem climbs_ok (HSc : CSc) (c1 : Bool) (sa1 : Option Addr) (sc1 : Nat) (sz1 : List Int) (da1 : Option Addr) (dc1 : Nat) (dz1 : List Int) (w : World) (w8 : IsArrD w sa1 sz1 sc1 da1 dz1 dc1) (F1 : Hid (flawE c1 sz1 dz1 = 0)) (hc : c1 = false) (F2 : Hid (sz1.length = 1)) :
    Calls Try.prog 5 #[.agg #[.bool c1, .slice sa1 sz1.length sc1, .slice da1 dz1.length dc1]] w fun e w' => e = .returned (.bool true) ∧ Below w.heap.size w w' := by
  subst hc
  obtain ⟨M, hMs, hM⟩ := one_axis F1.out F2.out
  have HSz : Hid (sz1 = [(M : Int)] ∧ M = dz1.length ∧ flawE false [(M : Int)] dz1 = 0) := ⟨hMs, hM, by rw [← hMs]; exact F1.out⟩
  have T1 := w8.2.2.2.2.2
  have hM4 : dz1.length ≤ 4096 := (flawE_short F1.out).2
  have t1 : ((sz1.length : Int) != 1) = false := by rw [F2.out]; rfl
  clear hMs hM
  obtain ⟨D, hD⟩ : ∃ D, D = scD 6 sz1 dz1 0 := ⟨_, rfl⟩
  obtain ⟨hc1, hc2⟩ := climbs_again HSz.out.2.2 T1
  rw [← HSz.out.1] at hc1 hc2
  rw [← hD] at hc1 hc2
  have hln : D.length = dz1.length := by rw [hD, HSz.out.1]; exact (sc_max (flawE_zero HSz.out.2.2).1 (by rw [HSz.out.2.1])).1
  have TD : ∀ j, In64 (nth D j) := by rw [hD]; exact sc_64 (x := 0) (flawE_zero F1.out).1 T1
  have HS1 : Hid (scE 6 0 false sz1 dz1 = 0 ∧ scD 6 sz1 dz1 (0 : Int).toNat = D) := ⟨by rw [HSz.out.1]; exact sc_vec_ok mon6 T1 HSz.out.2.2, hD.symm⟩
  have HS2 : Hid (scE 6 0 false sz1 D = 0 ∧ scD 6 sz1 D (0 : Int).toNat = D) := ⟨by rw [HSz.out.1] at hc1 ⊢; exact sc_vec_ok mon6 TD hc1, hc2⟩
  have HCl : Hid (∀ i, i < dz1.length → nth dz1 i ≤ nth D i ∧ (nth D i = nth dz1 i ∨ 0 < i ∧ nth D i = nth D (i - 1)) ∧ (0 < i → nth D (i - 1) ≤ nth D i)) := fun i hi => by rw [hD, HSz.out.1]; exact climbs (flawE_zero HSz.out.2.2).1 (by rw [HSz.out.2.1]) T1 hi
  have HTD : Hid ((∀ j, In64 (nth D j)) ∧ D.length = dz1.length) := ⟨TD, hln⟩
  have hD4 : D.length ≤ 4096 := by omega
  have ls1 : sz1.length ≤ 6 := (flawE_short F1.out).1
  clear T1 hD hc1 hc2 hln TD
  obtain ⟨x11, x12, x3, x4, s64, T⟩ := w8
  have HI1 : Hid (IsC w.heap.size w sa1 sz1 sc1 ∧ IsC w.heap.size w da1 dz1 dc1 ∧ (∀ j, In64 (nth sz1 j)) ∧ ∀ j, In64 (nth dz1 j)) := ⟨x3, x4, s64, T⟩
  clear x3 x4 T s64
  have n1 := Abx.new w (.bool false) (.slice sa1 sz1.length sc1) (.slice da1 dz1.length dc1)
  have n2 := lit_mid (w.alloc (.cells #[.bool false, .slice sa1 sz1.length sc1, .slice da1 dz1.length dc1] 25)) 3 [2, 7, 4] 3 rfl
  simp only [World.size_alloc, List.map_cons, List.map_nil] at n2
  go_enter Try.func5, Try.ntmps5
  go_wp2_with fail
  obtain ⟨wo3, hwo3⟩ : ∃ wo3, wo3 = ((w.alloc (.cells #[.bool false, .slice sa1 sz1.length sc1, .slice da1 dz1.length dc1] 25)).alloc (.cells #[.int .i64 2, .int .i64 7, .int .i64 4] 3)) := ⟨_, rfl⟩
  rw [← hwo3]
  have z4 : w.heap.size + 1 + 1 ≤ wo3.heap.size := by rw [hwo3]; simp only [World.size_alloc]; omega
  have B5 : Hid (Abx wo3 (w.heap.size) (.bool false) (.slice sa1 sz1.length sc1) (.slice da1 dz1.length dc1)) := by rw [hwo3]; exact (n1.al (.cells #[.int .i64 2, .int .i64 7, .int .i64 4] 3))
  have L6 : Hid (MidC (w.heap.size + 1) (w.heap.size + 1 + 1) wo3 (some ⟨w.heap.size + 1, 0, none⟩) ([2, 7, 4]) (3)) := by rw [hwo3]; exact n2
  have hb7 : Hid (Below w.heap.size w wo3) := by rw [hwo3]; exact (((Below.refl w.heap.size w).alloc (by omega) (.cells #[.bool false, .slice sa1 sz1.length sc1, .slice da1 dz1.length dc1] 25)).alloc (by simp only [World.size_alloc]; omega) (.cells #[.int .i64 2, .int .i64 7, .int .i64 4] 3))
  have zwo3 : w.heap.size ≤ wo3.heap.size := hb7.out.size
  clear hwo3 n1 n2
  refine (vec_c (some ⟨w.heap.size + 1, 0, none⟩) 3 [2, 7, 4] (by simp) _ (L6.out.is (by omega)).1).mono ?_
  rintro e v1 ⟨vap, vcp, gap, gcp, rfl, hVp, hGp, hB⟩
  have z8 : wo3.heap.size ≤ v1.heap.size := hB.size
  have B9 : Hid (Abx v1 (w.heap.size) (.bool false) (.slice sa1 sz1.length sc1) (.slice da1 dz1.length dc1)) := B5.out.go hB
  have L10 : Hid (MidC (w.heap.size + 1) (w.heap.size + 1 + 1) v1 (some ⟨w.heap.size + 1, 0, none⟩) ([2, 7, 4]) (3)) := L6.out.go (by omega) hB
  have hb11 : Hid (Below w.heap.size w v1) := hb7.out.trans (hB.mono hb7.out.size)
  have L12 : Hid (MidC (wo3.heap.size) (v1.heap.size) v1 (vap) ([(3 : Int)]) (vcp)) := hVp.midc
  have L13 : Hid (MidC (wo3.heap.size) (v1.heap.size) v1 (gap) ([2, 7, 4]) (gcp)) := hGp.midc
  clear hB hb7 B5 L6 hVp hGp
  clear L10
  go_wp2_with fail
  refine (scw_ok 6 0 false vap vcp [(3 : Int)] 1 rfl gap gcp [2, 7, 4] 3 rfl _ (by unfold In64; decide) (by unfold In64; decide) (by decide) (by decide) (L12.out.is (by omega)) (L13.out.is (by omega)).1 (lit12 (by decide)) [3] [2, 7, 7] HSc (by show scE 6 0 false [(3 : Int)] [2, 7, 4] = 0 ∧ [(3 : Int)] = [3] ∧ scD 6 [(3 : Int)] [2, 7, 4] (0 : Int).toNat = [2, 7, 7]; decide +kernel)).mono ?_
  rintro e v2 ⟨f1, g1, f2, g2, rfl, hX0, hY0, hB⟩
  have z14 : v1.heap.size ≤ v2.heap.size := hB.size
  have B15 : Hid (Abx v2 (w.heap.size) (.bool false) (.slice sa1 sz1.length sc1) (.slice da1 dz1.length dc1)) := B9.out.go hB
  have L16 : Hid (MidC (wo3.heap.size) (v1.heap.size) v2 (vap) ([(3 : Int)]) (vcp)) := L12.out.go (by omega) hB
  have L17 : Hid (MidC (wo3.heap.size) (v1.heap.size) v2 (gap) ([2, 7, 4]) (gcp)) := L13.out.go (by omega) hB
  have hb18 : Hid (Below w.heap.size w v2) := hb11.out.trans (hB.mono hb11.out.size)
  have L19 : Hid (MidC (v1.heap.size) (v2.heap.size) v2 (f1) ([3]) (g1)) := hX0.midc
  have L20 : Hid (MidC (v1.heap.size) (v2.heap.size) v2 (f2) ([2, 7, 7]) (g2)) := hY0.midc
  clear hB hb11 B9 L12 L13 hX0 hY0
  clear L16 L17
  have n21 := Abx.new v2 (.bool false) (.slice f1 1 g1) (.slice f2 3 g2)
  have l22 := (n21).c0
  have l23 := (n21).c1
  have l24 := (n21).c2
  have n25 := lit_mid (v2.alloc (.cells #[.bool false, .slice f1 1 g1, .slice f2 3 g2] 25)) 3 [2, 7, 7] 3 rfl
  simp only [World.size_alloc, List.map_cons, List.map_nil] at n25
  go_wp2_with fail
  obtain ⟨wo26, hwo26⟩ : ∃ wo26, wo26 = ((v2.alloc (.cells #[.bool false, .slice f1 1 g1, .slice f2 3 g2] 25)).alloc (.cells #[.int .i64 2, .int .i64 7, .int .i64 7] 3)) := ⟨_, rfl⟩
  rw [← hwo26]
  have z27 : v2.heap.size + 1 + 1 ≤ wo26.heap.size := by rw [hwo26]; simp only [World.size_alloc]; omega
  have B28 : Hid (Abx wo26 (w.heap.size) (.bool false) (.slice sa1 sz1.length sc1) (.slice da1 dz1.length dc1)) := by rw [hwo26]; exact ((B15.out.al (.cells #[.bool false, .slice f1 1 g1, .slice f2 3 g2] 25)).al (.cells #[.int .i64 2, .int .i64 7, .int .i64 7] 3))
  have B29 : Hid (Abx wo26 (v2.heap.size) (.bool false) (.slice f1 1 g1) (.slice f2 3 g2)) := by rw [hwo26]; exact (n21.al (.cells #[.int .i64 2, .int .i64 7, .int .i64 7] 3))
  have L30 : Hid (MidC (v1.heap.size) (v2.heap.size) wo26 (f1) ([3]) (g1)) := by rw [hwo26]; exact ((L19.out.al (by omega) (.cells #[.bool false, .slice f1 1 g1, .slice f2 3 g2] 25)).al (by simp only [World.size_alloc]; omega) (.cells #[.int .i64 2, .int .i64 7, .int .i64 7] 3))
  have L31 : Hid (MidC (v1.heap.size) (v2.heap.size) wo26 (f2) ([2, 7, 7]) (g2)) := by rw [hwo26]; exact ((L20.out.al (by omega) (.cells #[.bool false, .slice f1 1 g1, .slice f2 3 g2] 25)).al (by simp only [World.size_alloc]; omega) (.cells #[.int .i64 2, .int .i64 7, .int .i64 7] 3))
  have L32 : Hid (MidC (v2.heap.size + 1) (v2.heap.size + 1 + 1) wo26 (some ⟨v2.heap.size + 1, 0, none⟩) ([2, 7, 7]) (3)) := by rw [hwo26]; exact n25
  have hb33 : Hid (Below w.heap.size w wo26) := by rw [hwo26]; exact ((hb18.out.alloc (by omega) (.cells #[.bool false, .slice f1 1 g1, .slice f2 3 g2] 25)).alloc (by simp only [World.size_alloc]; omega) (.cells #[.int .i64 2, .int .i64 7, .int .i64 7] 3))
  have zwo26 : w.heap.size ≤ wo26.heap.size := hb33.out.size
  clear hwo26 n21 l22 l23 l24 n25 hb18 B15 L19 L20
  refine (ints_any f2 g2 [2, 7, 7] (some ⟨v2.heap.size + 1, 0, none⟩) 3 [2, 7, 7] (by simp) _ _ (L31.out.is (by omega)).1 (L32.out.is (by omega)).1).mono ?_
  rintro e v3 ⟨rfl, hB⟩
  have z34 : wo26.heap.size ≤ v3.heap.size := hB.size
  have B35 : Hid (Abx v3 (w.heap.size) (.bool false) (.slice sa1 sz1.length sc1) (.slice da1 dz1.length dc1)) := B28.out.go hB
  have B36 : Hid (Abx v3 (v2.heap.size) (.bool false) (.slice f1 1 g1) (.slice f2 3 g2)) := B29.out.go hB
  have L37 : Hid (MidC (v1.heap.size) (v2.heap.size) v3 (f1) ([3]) (g1)) := L30.out.go (by omega) hB
  have L38 : Hid (MidC (v1.heap.size) (v2.heap.size) v3 (f2) ([2, 7, 7]) (g2)) := L31.out.go (by omega) hB
  have L39 : Hid (MidC (v2.heap.size + 1) (v2.heap.size + 1 + 1) v3 (some ⟨v2.heap.size + 1, 0, none⟩) ([2, 7, 7]) (3)) := L32.out.go (by omega) hB
  have hb40 : Hid (Below w.heap.size w v3) := hb33.out.trans (hB.mono hb33.out.size)
  clear hB hb33 B28 B29 L30 L31 L32
  rw [eqB_true rfl]
  clear L37 L38 L39 B36
  have l41 := (B35.out).c0
  have l42 := (B35.out).c1
  have l43 := (B35.out).c2
  go_wp2_with fail
  clear l41 l42 l43
  refine (check_ok false sa1 sc1 sz1 da1 dc1 dz1 x11 x12 _ ((HI1.out.1.1.below hb40.out).mono hb40.out.size) ((HI1.out.2.1.1.below hb40.out).mono hb40.out.size) F1.out).mono ?_
  rintro e v4 ⟨rfl, hB⟩
  have z44 : v3.heap.size ≤ v4.heap.size := hB.size
  have B45 : Hid (Abx v4 (w.heap.size) (.bool false) (.slice sa1 sz1.length sc1) (.slice da1 dz1.length dc1)) := B35.out.go hB
  have hb46 : Hid (Below w.heap.size w v4) := hb40.out.trans (hB.mono hb40.out.size)
  clear hB hb40 B35
  have l47 := (B45.out).c0
  have l48 := (B45.out).c1
  have l49 := (B45.out).c2
  go_wp2_with fail
  clear l47 l48 l49
  refine (scw_ok 6 0 false sa1 sc1 sz1 sz1.length rfl da1 dc1 dz1 dz1.length rfl _ (by unfold In64; decide) (by unfold In64; decide) x11 x12 ((HI1.out.1.below hb46.out).mono hb46.out.size) ((HI1.out.2.1.1.below hb46.out).mono hb46.out.size) HI1.out.2.2.2 sz1 D HSc ⟨HS1.out.1, rfl, HS1.out.2⟩).mono ?_
  rintro e v5 ⟨xa1, xc1, ya1, yc1, rfl, hX1, hY1, hB⟩
  have z50 : v4.heap.size ≤ v5.heap.size := hB.size
  have B51 : Hid (Abx v5 (w.heap.size) (.bool false) (.slice sa1 sz1.length sc1) (.slice da1 dz1.length dc1)) := B45.out.go hB
  have hb52 : Hid (Below w.heap.size w v5) := hb46.out.trans (hB.mono hb46.out.size)
  have L53 : Hid (MidC (v4.heap.size) (v5.heap.size) v5 (xa1) (sz1) (xc1)) := hX1.midc
  have L54 : Hid (MidC (v4.heap.size) (v5.heap.size) v5 (ya1) (D) (yc1)) := hY1.midc
  clear hB hb46 B45 hX1 hY1
  have n55 := Abx.new v5 (.bool false) (.slice xa1 sz1.length xc1) (.slice ya1 D.length yc1)
  have l56 := (n55).c0
  have l57 := (n55).c1
  have l58 := (n55).c2
  go_wp2_with fail
  obtain ⟨wo59, hwo59⟩ : ∃ wo59, wo59 = (v5.alloc (.cells #[.bool false, .slice xa1 sz1.length xc1, .slice ya1 D.length yc1] 25)) := ⟨_, rfl⟩
  rw [← hwo59]
  have z60 : v5.heap.size + 1 ≤ wo59.heap.size := by rw [hwo59]; simp only [World.size_alloc]; omega
  have B61 : Hid (Abx wo59 (w.heap.size) (.bool false) (.slice sa1 sz1.length sc1) (.slice da1 dz1.length dc1)) := by rw [hwo59]; exact (B51.out.al (.cells #[.bool false, .slice xa1 sz1.length xc1, .slice ya1 D.length yc1] 25))
  have B62 : Hid (Abx wo59 (v5.heap.size) (.bool false) (.slice xa1 sz1.length xc1) (.slice ya1 D.length yc1)) := by rw [hwo59]; exact n55
  have L63 : Hid (MidC (v4.heap.size) (v5.heap.size) wo59 (xa1) (sz1) (xc1)) := by rw [hwo59]; exact (L53.out.al (by omega) (.cells #[.bool false, .slice xa1 sz1.length xc1, .slice ya1 D.length yc1] 25))
  have L64 : Hid (MidC (v4.heap.size) (v5.heap.size) wo59 (ya1) (D) (yc1)) := by rw [hwo59]; exact (L54.out.al (by omega) (.cells #[.bool false, .slice xa1 sz1.length xc1, .slice ya1 D.length yc1] 25))
  have hb65 : Hid (Below w.heap.size w wo59) := by rw [hwo59]; exact (hb52.out.alloc (by omega) (.cells #[.bool false, .slice xa1 sz1.length xc1, .slice ya1 D.length yc1] 25))
  have zwo59 : w.heap.size ≤ wo59.heap.size := hb65.out.size
  clear hwo59 n55 l56 l57 l58 hb52 B51 L53 L54
  refine (scw_ok 6 0 false xa1 xc1 sz1 sz1.length rfl ya1 yc1 D D.length rfl _ (by unfold In64; decide) (by unfold In64; decide) (by omega) (by omega) (L63.out.is (by omega)) (L64.out.is (by omega)).1 HTD.out.1 sz1 D HSc ⟨HS2.out.1, rfl, HS2.out.2⟩).mono ?_
  rintro e v6 ⟨xa2, xc2, ya2, yc2, rfl, hX2, hY2, hB⟩
  have z66 : wo59.heap.size ≤ v6.heap.size := hB.size
  have B67 : Hid (Abx v6 (w.heap.size) (.bool false) (.slice sa1 sz1.length sc1) (.slice da1 dz1.length dc1)) := B61.out.go hB
  have B68 : Hid (Abx v6 (v5.heap.size) (.bool false) (.slice xa1 sz1.length xc1) (.slice ya1 D.length yc1)) := B62.out.go hB
  have L69 : Hid (MidC (v4.heap.size) (v5.heap.size) v6 (xa1) (sz1) (xc1)) := L63.out.go (by omega) hB
  have L70 : Hid (MidC (v4.heap.size) (v5.heap.size) v6 (ya1) (D) (yc1)) := L64.out.go (by omega) hB
  have hb71 : Hid (Below w.heap.size w v6) := hb65.out.trans (hB.mono hb65.out.size)
  have L72 : Hid (MidC (wo59.heap.size) (v6.heap.size) v6 (xa2) (sz1) (xc2)) := hX2.midc
  have L73 : Hid (MidC (wo59.heap.size) (v6.heap.size) v6 (ya2) (D) (yc2)) := hY2.midc
  clear hB hb65 B61 B62 L63 L64 hX2 hY2
  have n74 := Abx.new v6 (.bool false) (.slice xa2 sz1.length xc2) (.slice ya2 D.length yc2)
  have l75 := ((B68.out.al (.cells #[.bool false, .slice xa2 sz1.length xc2, .slice ya2 D.length yc2] 25))).c0
  have l76 := ((B68.out.al (.cells #[.bool false, .slice xa2 sz1.length xc2, .slice ya2 D.length yc2] 25))).c1
  have l77 := ((B68.out.al (.cells #[.bool false, .slice xa2 sz1.length xc2, .slice ya2 D.length yc2] 25))).c2
  have l78 := (n74).c0
  have l79 := (n74).c1
  have l80 := (n74).c2
  go_wp2_with fail
  obtain ⟨wo81, hwo81⟩ : ∃ wo81, wo81 = (v6.alloc (.cells #[.bool false, .slice xa2 sz1.length xc2, .slice ya2 D.length yc2] 25)) := ⟨_, rfl⟩
  rw [← hwo81]
  have z82 : v6.heap.size + 1 ≤ wo81.heap.size := by rw [hwo81]; simp only [World.size_alloc]; omega
  have B83 : Hid (Abx wo81 (w.heap.size) (.bool false) (.slice sa1 sz1.length sc1) (.slice da1 dz1.length dc1)) := by rw [hwo81]; exact (B67.out.al (.cells #[.bool false, .slice xa2 sz1.length xc2, .slice ya2 D.length yc2] 25))
  have B84 : Hid (Abx wo81 (v5.heap.size) (.bool false) (.slice xa1 sz1.length xc1) (.slice ya1 D.length yc1)) := by rw [hwo81]; exact (B68.out.al (.cells #[.bool false, .slice xa2 sz1.length xc2, .slice ya2 D.length yc2] 25))
  have B85 : Hid (Abx wo81 (v6.heap.size) (.bool false) (.slice xa2 sz1.length xc2) (.slice ya2 D.length yc2)) := by rw [hwo81]; exact n74
  have L86 : Hid (MidC (v4.heap.size) (v5.heap.size) wo81 (xa1) (sz1) (xc1)) := by rw [hwo81]; exact (L69.out.al (by omega) (.cells #[.bool false, .slice xa2 sz1.length xc2, .slice ya2 D.length yc2] 25))
  have L87 : Hid (MidC (v4.heap.size) (v5.heap.size) wo81 (ya1) (D) (yc1)) := by rw [hwo81]; exact (L70.out.al (by omega) (.cells #[.bool false, .slice xa2 sz1.length xc2, .slice ya2 D.length yc2] 25))
  have L88 : Hid (MidC (wo59.heap.size) (v6.heap.size) wo81 (xa2) (sz1) (xc2)) := by rw [hwo81]; exact (L72.out.al (by omega) (.cells #[.bool false, .slice xa2 sz1.length xc2, .slice ya2 D.length yc2] 25))
  have L89 : Hid (MidC (wo59.heap.size) (v6.heap.size) wo81 (ya2) (D) (yc2)) := by rw [hwo81]; exact (L73.out.al (by omega) (.cells #[.bool false, .slice xa2 sz1.length xc2, .slice ya2 D.length yc2] 25))
  have hb90 : Hid (Below w.heap.size w wo81) := by rw [hwo81]; exact (hb71.out.alloc (by omega) (.cells #[.bool false, .slice xa2 sz1.length xc2, .slice ya2 D.length yc2] 25))
  have zwo81 : w.heap.size ≤ wo81.heap.size := hb90.out.size
  clear hwo81 n74 l75 l76 l77 l78 l79 l80 hb71 B67 B68 L69 L70 L72 L73
  refine (alike_eq false xa2 xc2 sz1 ya2 yc2 D xa1 xc1 sz1 ya1 yc1 D rfl rfl (by omega) (by omega) _ (L88.out.is (by omega)) (L89.out.is (by omega)).1 (L86.out.is (by omega)) (L87.out.is (by omega)).1).mono ?_
  rintro e v7 ⟨rfl, hB⟩
  have z91 : wo81.heap.size ≤ v7.heap.size := hB.size
  have B92 : Hid (Abx v7 (w.heap.size) (.bool false) (.slice sa1 sz1.length sc1) (.slice da1 dz1.length dc1)) := B83.out.go hB
  have B93 : Hid (Abx v7 (v5.heap.size) (.bool false) (.slice xa1 sz1.length xc1) (.slice ya1 D.length yc1)) := B84.out.go hB
  have B94 : Hid (Abx v7 (v6.heap.size) (.bool false) (.slice xa2 sz1.length xc2) (.slice ya2 D.length yc2)) := B85.out.go hB
  have L95 : Hid (MidC (v4.heap.size) (v5.heap.size) v7 (xa1) (sz1) (xc1)) := L86.out.go (by omega) hB
  have L96 : Hid (MidC (v4.heap.size) (v5.heap.size) v7 (ya1) (D) (yc1)) := L87.out.go (by omega) hB
  have L97 : Hid (MidC (wo59.heap.size) (v6.heap.size) v7 (xa2) (sz1) (xc2)) := L88.out.go (by omega) hB
  have L98 : Hid (MidC (wo59.heap.size) (v6.heap.size) v7 (ya2) (D) (yc2)) := L89.out.go (by omega) hB
  have hb99 : Hid (Below w.heap.size w v7) := hb90.out.trans (hB.mono hb90.out.size)
  clear hB hb90 B83 B84 B85 L86 L87 L88 L89
  clear L97 L98 B94
  have t2 : ((D.length : Int) != (dz1.length : Int)) = false := by rw [HTD.out.2]; simp
  have l100 := (B92.out).c0
  have l101 := (B92.out).c1
  have l102 := (B92.out).c2
  have l103 := (B93.out).c0
  have l104 := (B93.out).c1
  have l105 := (B93.out).c2
  go_wp2_with fail
  clear l100 l101 l102 l103 l104 l105 t2
  go_loopw [11] (fun i wr => ∃ k : Nat, k ≤ dz1.length ∧ i = .int .i64 k ∧ Below v7.heap.size v7 wr) (fun i _ => dz1.length - (intOf i).toNat)
  case atStart => exact ⟨0, Nat.zero_le _, rfl, Below.refl _ _⟩
  case round =>
    obtain ⟨k, hk, rfl, hBv⟩ := hrel
    have HBv : Hid (Below v7.heap.size v7 wr) := hBv
    have HBw : Hid (Below w.heap.size w wr) := hb99.out.trans (hBv.mono hb99.out.size)
    have la := (B92.out.go hBv).c2
    have lx := (B93.out.go hBv).c2
    by_cases hlt : k < dz1.length
    · have hIa := (HI1.out.2.1.1.below HBw.out).mono HBw.out.size
      have hIx := ((L96.out.is (by omega)).below hBv).1
      have hkD : k < D.length := by rw [HTD.out.2]; exact hlt
      obtain ⟨ba, oa, rfl, _, hca⟩ := hIa.at hlt
      obtain ⟨bx, ox, rfl, _, hcx⟩ := hIx.at hkD
      have ca := hca k hlt
      have cx := hcx k hkD
      obtain ⟨h1, h2, h3⟩ := HCl.out k hlt
      by_cases hk0 : k = 0
      · subst hk0
        have e1 : nth D 0 = nth dz1 0 := h2.resolve_right fun h => absurd h.1 (by decide)
        rw [e1] at cx
        generalize nth dz1 0 = X at *
        have t1 : decide (X < X) = false := by simp
        have t2 : (X != X) = false := by simp
        have t3 : decide ((0 : Int) < ((0 : Nat) : Int)) = false := by simp
        simp only [Nat.add_zero] at ca cx
        clear hca hcx h1 h2 h3 e1 hIa hIx hBv HCl
        go_wp2_with fail
        go_quiet (fail)
        go_wp2_with fail
        go_quiet (fail)
        go_wp2_with fail
        go_quiet (fail)
        go_wp2_with fail
        exact ⟨⟨0 + 1, by omega, by go_num, bel_drewN HBv.out _⟩, by simp [intOf]; omega⟩
      · obtain ⟨K, rfl⟩ : ∃ K : Nat, k = K + 1 := ⟨k - 1, by omega⟩
        have cK := hcx K (by omega)
        rw [Nat.add_sub_cancel] at h2 h3
        have h3' := h3 (by omega)
        obtain ⟨Z, hZ⟩ : ∃ Z, Z = nth D K := ⟨_, rfl⟩
        obtain ⟨X, hX⟩ : ∃ X, X = nth D (K + 1) := ⟨_, rfl⟩
        obtain ⟨Y, hY⟩ : ∃ Y, Y = nth dz1 (K + 1) := ⟨_, rfl⟩
        rw [← hZ] at cK h2 h3'
        rw [← hX] at cx h1 h2 h3'
        rw [← hY] at ca h1 h2
        have t1 : decide (X < Y) = false := by simp; omega
        have t3 : decide ((0 : Int) < ((K + 1 : Nat) : Int)) = true := by simp <;> omega
        have t3' : decide ((0 : Int) < (K : Int) + 1) = true := by simp <;> omega
        have t4 : decide (X < Z) = false := by simp; omega
        have t0 : (((K : Int) + 1) == 0) = false := by simp; omega
        clear hca hcx h3 hIa hIx hBv HCl hZ hX hY
        by_cases he : X = Y
        · subst he
          have t2 : (X != X) = false := by simp
          clear h1 h2 h3'
          go_wp2_with fail
          go_quiet (fail)
          go_wp2_with fail
          go_quiet (fail)
          go_wp2_with fail
          go_quiet (fail)
          go_wp2_with fail
          exact ⟨⟨K + 1 + 1, by omega, by go_num, bel_drewN HBv.out _⟩, by simp [intOf]; omega⟩
        · have e2 : X = Z := by omega
          subst e2
          have t2 : (X != Y) = true := by simp; exact he
          have t5 : (X != X) = false := by simp
          clear h1 h2 h3' he
          go_wp2_with fail
          go_quiet (fail)
          go_wp2_with fail
          go_quiet (fail)
          go_wp2_with fail
          go_quiet (fail)
          go_wp2_with fail
          exact ⟨⟨K + 1 + 1, by omega, by go_num, bel_drewN HBv.out _⟩, by simp [intOf]; omega⟩
    · obtain rfl : k = dz1.length := by omega
      go_wp2_with fail
      go_ret
      exact ⟨rfl, HBw.out⟩
theorem fclimbs_walk (HSc : CSc) (c1 : Bool) (sa1 : Option Addr) (sc1 : Nat) (sz1 : List Int) (da1 : Option Addr) (dc1 : Nat) (dz1 : List Int) (w : World) (w8 : IsArrD w sa1 sz1 sc1 da1 dz1 dc1) :
    Calls Try.prog 5 #[.agg #[.bool c1, .slice sa1 sz1.length sc1, .slice da1 dz1.length dc1]] w fun e w' => e = .returned (.bool true) ∧ Below w.heap.size w w' := by
  by_cases h1 : flawE c1 sz1 dz1 = 0
  · by_cases hc : c1 = true
    · exact climbs_char HSc c1 sa1 sc1 sz1 da1 dc1 dz1 w w8 h1 hc
    · by_cases h2 : sz1.length = 1
      · exact climbs_ok HSc c1 sa1 sc1 sz1 da1 dc1 dz1 w w8 h1 (by simpa using hc) h2
      · exact climbs_rank HSc c1 sa1 sc1 sz1 da1 dc1 dz1 w w8 h1 (by simpa using hc) h2
  · exact climbs_flaw HSc c1 sa1 sc1 sz1 da1 dc1 dz1 w w8 h1
end Go.Proofs.Ytmbgomljofngnac
