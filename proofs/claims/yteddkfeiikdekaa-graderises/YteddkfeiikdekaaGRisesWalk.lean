/-
  The walk of the statement GradeRises, given what the program tells.
-/
import Derived.Test.YteddkfeiikdekaaGrdy
import Derived.Test.YteddkfeiikdekaaSarr
import Derived.Test.YteddkfeiikdekaaBase
import Derived.Test.YteddkfeiikdekaaSrts
namespace Go.Proofs.Yteddkfeiikdekaa
open Go.RowKit
set_option linter.unusedVariables false

set_option maxRecDepth 100000 in
set_option maxHeartbeats 8000000 in
theorem rises_no (HU : CUp) (c1 : Bool) (sa1 : Option Addr) (sc1 : Nat) (sz1 : List Int) (da1 : Option Addr) (dc1 : Nat) (dz1 : List Int) (w : World) (w8 : IsArrD w sa1 sz1 sc1 da1 dz1 dc1) (F1 : Hid (gdE c1 sz1 dz1 ≠ 0)) :
    Calls Try.prog 3 #[.agg #[.bool c1, .slice sa1 sz1.length sc1, .slice da1 dz1.length dc1]] w fun e w' => e = .returned (.bool true) ∧ Below w.heap.size w w' := by
  obtain ⟨E, hE⟩ : ∃ E, E = gdE c1 sz1 dz1 := ⟨_, rfl⟩
  have HE : Hid (gdE c1 sz1 dz1 = E ∧ E ≠ 0) := ⟨hE.symm, by rw [hE]; exact F1.out⟩
  clear hE
  obtain ⟨x11, x12, x3, x4, s64, T⟩ := w8
  have HI1 : Hid (IsC w.heap.size w sa1 sz1 sc1 ∧ IsC w.heap.size w da1 dz1 dc1 ∧ (∀ j, In64 (nth sz1 j)) ∧ ∀ j, In64 (nth dz1 j)) := ⟨x3, x4, s64, T⟩
  clear x3 x4 T s64
  have n1 := Abx.new w (.bool c1) (.slice sa1 sz1.length sc1) (.slice da1 dz1.length dc1)
  have n2 := lit_mid (w.alloc (.cells #[.bool c1, .slice sa1 sz1.length sc1, .slice da1 dz1.length dc1] 24)) 3 [5, 3, 5] 3 rfl
  simp only [World.size_alloc, List.map_cons, List.map_nil] at n2
  go_enter Try.func3, Try.ntmps3
  go_wp2_with fail
  obtain ⟨wo3, hwo3⟩ : ∃ wo3, wo3 = ((w.alloc (.cells #[.bool c1, .slice sa1 sz1.length sc1, .slice da1 dz1.length dc1] 24)).alloc (.cells #[.int .i64 5, .int .i64 3, .int .i64 5] 3)) := ⟨_, rfl⟩
  rw [← hwo3]
  have z4 : w.heap.size + 1 + 1 ≤ wo3.heap.size := by rw [hwo3]; simp only [World.size_alloc]; omega
  have B5 : Hid (Abx wo3 (w.heap.size) (.bool c1) (.slice sa1 sz1.length sc1) (.slice da1 dz1.length dc1)) := by rw [hwo3]; exact (n1.al (.cells #[.int .i64 5, .int .i64 3, .int .i64 5] 3))
  have L6 : Hid (MidC (w.heap.size + 1) (w.heap.size + 1 + 1) wo3 (some ⟨w.heap.size + 1, 0, none⟩) ([5, 3, 5]) (3)) := by rw [hwo3]; exact n2
  have hb7 : Hid (Below w.heap.size w wo3) := by rw [hwo3]; exact (((Below.refl w.heap.size w).alloc (by omega) (.cells #[.bool c1, .slice sa1 sz1.length sc1, .slice da1 dz1.length dc1] 24)).alloc (by simp only [World.size_alloc]; omega) (.cells #[.int .i64 5, .int .i64 3, .int .i64 5] 3))
  have zwo3 : w.heap.size ≤ wo3.heap.size := hb7.out.size
  clear hwo3 n1 n2
  refine (vec_c (some ⟨w.heap.size + 1, 0, none⟩) 3 [5, 3, 5] (by simp) _ (L6.out.is (by omega)).1).mono ?_
  rintro e v1 ⟨vap, vcp, gap, gcp, rfl, hVp, hGp, hB⟩
  have z8 : wo3.heap.size ≤ v1.heap.size := hB.size
  have B9 : Hid (Abx v1 (w.heap.size) (.bool c1) (.slice sa1 sz1.length sc1) (.slice da1 dz1.length dc1)) := B5.out.go hB
  have L10 : Hid (MidC (w.heap.size + 1) (w.heap.size + 1 + 1) v1 (some ⟨w.heap.size + 1, 0, none⟩) ([5, 3, 5]) (3)) := L6.out.go (by omega) hB
  have hb11 : Hid (Below w.heap.size w v1) := hb7.out.trans (hB.mono hb7.out.size)
  have L12 : Hid (MidC (wo3.heap.size) (v1.heap.size) v1 (vap) ([(3 : Int)]) (vcp)) := hVp.midc
  have L13 : Hid (MidC (wo3.heap.size) (v1.heap.size) v1 (gap) ([5, 3, 5]) (gcp)) := hGp.midc
  clear hB hb7 B5 L6 hVp hGp
  clear L10
  go_wp2_with fail
  refine (upw_ok false vap vcp [(3 : Int)] 1 rfl gap gcp [5, 3, 5] 3 rfl _ (by decide) (by decide) (L12.out.is (by omega)) (L13.out.is (by omega)) [1, 0, 2] HU (by decide)).mono ?_
  rintro e v2 ⟨g0, h0, rfl, hN0, hB⟩
  have z14 : v1.heap.size ≤ v2.heap.size := hB.size
  have B15 : Hid (Abx v2 (w.heap.size) (.bool c1) (.slice sa1 sz1.length sc1) (.slice da1 dz1.length dc1)) := B9.out.go hB
  have L16 : Hid (MidC (wo3.heap.size) (v1.heap.size) v2 (vap) ([(3 : Int)]) (vcp)) := L12.out.go (by omega) hB
  have L17 : Hid (MidC (wo3.heap.size) (v1.heap.size) v2 (gap) ([5, 3, 5]) (gcp)) := L13.out.go (by omega) hB
  have hb18 : Hid (Below w.heap.size w v2) := hb11.out.trans (hB.mono hb11.out.size)
  have L19 : Hid (MidC (v1.heap.size) (v2.heap.size) v2 (g0) ([1, 0, 2]) (h0)) := hN0.midc
  clear hB hb11 B9 L12 L13 hN0
  clear L16 L17
  have n20 := lit_mid v2 3 [1, 0, 2] 3 rfl
  simp only [List.map_cons, List.map_nil] at n20
  go_wp2_with fail
  obtain ⟨wo21, hwo21⟩ : ∃ wo21, wo21 = (v2.alloc (.cells #[.int .i64 1, .int .i64 0, .int .i64 2] 3)) := ⟨_, rfl⟩
  rw [← hwo21]
  have z22 : v2.heap.size + 1 ≤ wo21.heap.size := by rw [hwo21]; simp only [World.size_alloc]; omega
  have B23 : Hid (Abx wo21 (w.heap.size) (.bool c1) (.slice sa1 sz1.length sc1) (.slice da1 dz1.length dc1)) := by rw [hwo21]; exact (B15.out.al (.cells #[.int .i64 1, .int .i64 0, .int .i64 2] 3))
  have L24 : Hid (MidC (v1.heap.size) (v2.heap.size) wo21 (g0) ([1, 0, 2]) (h0)) := by rw [hwo21]; exact (L19.out.al (by omega) (.cells #[.int .i64 1, .int .i64 0, .int .i64 2] 3))
  have L25 : Hid (MidC (v2.heap.size) (v2.heap.size + 1) wo21 (some ⟨v2.heap.size, 0, none⟩) ([1, 0, 2]) (3)) := by rw [hwo21]; exact n20
  have hb26 : Hid (Below w.heap.size w wo21) := by rw [hwo21]; exact (hb18.out.alloc (by omega) (.cells #[.int .i64 1, .int .i64 0, .int .i64 2] 3))
  have zwo21 : w.heap.size ≤ wo21.heap.size := hb26.out.size
  clear hwo21 n20 hb18 B15 L19
  refine (ints_any g0 h0 [1, 0, 2] (some ⟨v2.heap.size, 0, none⟩) 3 [1, 0, 2] (by simp) _ _ (L24.out.is (by omega)).1 (L25.out.is (by omega)).1).mono ?_
  rintro e v3 ⟨rfl, hB⟩
  have z27 : wo21.heap.size ≤ v3.heap.size := hB.size
  have B28 : Hid (Abx v3 (w.heap.size) (.bool c1) (.slice sa1 sz1.length sc1) (.slice da1 dz1.length dc1)) := B23.out.go hB
  have L29 : Hid (MidC (v1.heap.size) (v2.heap.size) v3 (g0) ([1, 0, 2]) (h0)) := L24.out.go (by omega) hB
  have L30 : Hid (MidC (v2.heap.size) (v2.heap.size + 1) v3 (some ⟨v2.heap.size, 0, none⟩) ([1, 0, 2]) (3)) := L25.out.go (by omega) hB
  have hb31 : Hid (Below w.heap.size w v3) := hb26.out.trans (hB.mono hb26.out.size)
  clear hB hb26 B23 L24 L25
  rw [eqB_true rfl]
  clear L29 L30
  have l32 := (B28.out).c0
  have l33 := (B28.out).c1
  have l34 := (B28.out).c2
  go_wp2_with fail
  clear l32 l33 l34
  refine (upw_no c1 sa1 sc1 sz1 sz1.length rfl da1 dc1 dz1 dz1.length rfl _ x11 x12 ((HI1.out.1.below hb31.out).mono hb31.out.size) ((HI1.out.2.1.below hb31.out).mono hb31.out.size) HU E HE.out.1 HE.out.2).mono ?_
  rintro e v4 ⟨g1, h1, rfl, hN1, hB⟩
  have z35 : v3.heap.size ≤ v4.heap.size := hB.size
  have B36 : Hid (Abx v4 (w.heap.size) (.bool c1) (.slice sa1 sz1.length sc1) (.slice da1 dz1.length dc1)) := B28.out.go hB
  have hb37 : Hid (Below w.heap.size w v4) := hb31.out.trans (hB.mono hb31.out.size)
  have L38 : Hid (MidC (v3.heap.size) (v4.heap.size) v4 (g1) ([]) (h1)) := hN1.midc
  clear hB hb31 B28 hN1
  go_wp2_with fail
  go_ret
  exact ⟨rfl, hb37.out⟩
set_option maxRecDepth 100000 in
set_option maxHeartbeats 8000000 in
theorem rises_ok (HU : CUp) (c1 : Bool) (sa1 : Option Addr) (sc1 : Nat) (sz1 : List Int) (da1 : Option Addr) (dc1 : Nat) (dz1 : List Int) (w : World) (w8 : IsArrD w sa1 sz1 sc1 da1 dz1 dc1) (F1 : Hid (gdE c1 sz1 dz1 = 0)) :
    Calls Try.prog 3 #[.agg #[.bool c1, .slice sa1 sz1.length sc1, .slice da1 dz1.length dc1]] w fun e w' => e = .returned (.bool true) ∧ Below w.heap.size w w' := by
  obtain ⟨O, hO⟩ : ∃ O, O = gdO false sz1 dz1 := ⟨_, rfl⟩
  obtain ⟨n, hn⟩ : ∃ n, nR sz1 = n := ⟨_, rfl⟩
  obtain ⟨lo, hlo⟩ : ∃ lo, lR sz1 dz1 = lo := ⟨_, rfl⟩
  have hn4 : n ≤ 4096 := by rw [← hn]; exact (nR_is F1.out).2
  have hd4 : dz1.length ≤ 4096 := (flawE_short (gdE_zero.1 F1.out).1).2
  have HOL : Hid (O.length = n ∧ IsOrd O ∧ n * lo ≤ dz1.length) := ⟨by rw [hO, gdO_length]; exact hn, by rw [hO]; exact gdO_ord false sz1 dz1, by rw [← hn, ← hlo]; exact lR_le sz1 dz1⟩
  have HRS : Hid (∀ k, k + 1 < n → cmpL (rwL dz1 lo (nth O k).toNat) (rwL dz1 lo (nth O (k + 1)).toNat) < 0 ∨ (cmpL (rwL dz1 lo (nth O k).toNat) (rwL dz1 lo (nth O (k + 1)).toNat) = 0 ∧ (nth O k).toNat < (nth O (k + 1)).toNat)) := fun k hk => by rw [hO, ← hlo]; exact gd_rise (by rw [hn]; exact hk)
  have HO : Hid (gdE c1 sz1 dz1 = 0 ∧ gdO false sz1 dz1 = O) := ⟨F1.out, hO.symm⟩
  have HNL : Hid (nR sz1 = n ∧ lR sz1 dz1 = lo) := ⟨hn, hlo⟩
  have hol1 : O.length ≤ n := by have := HOL.out.1; omega
  have hol2 : n ≤ O.length := by have := HOL.out.1; omega
  clear hO hn hlo
  obtain ⟨x11, x12, x3, x4, s64, T⟩ := w8
  have HI1 : Hid (IsC w.heap.size w sa1 sz1 sc1 ∧ IsC w.heap.size w da1 dz1 dc1 ∧ (∀ j, In64 (nth sz1 j)) ∧ ∀ j, In64 (nth dz1 j)) := ⟨x3, x4, s64, T⟩
  clear x3 x4 T s64
  have n1 := Abx.new w (.bool c1) (.slice sa1 sz1.length sc1) (.slice da1 dz1.length dc1)
  have n2 := lit_mid (w.alloc (.cells #[.bool c1, .slice sa1 sz1.length sc1, .slice da1 dz1.length dc1] 24)) 3 [5, 3, 5] 3 rfl
  simp only [World.size_alloc, List.map_cons, List.map_nil] at n2
  go_enter Try.func3, Try.ntmps3
  go_wp2_with fail
  obtain ⟨wo3, hwo3⟩ : ∃ wo3, wo3 = ((w.alloc (.cells #[.bool c1, .slice sa1 sz1.length sc1, .slice da1 dz1.length dc1] 24)).alloc (.cells #[.int .i64 5, .int .i64 3, .int .i64 5] 3)) := ⟨_, rfl⟩
  rw [← hwo3]
  have z4 : w.heap.size + 1 + 1 ≤ wo3.heap.size := by rw [hwo3]; simp only [World.size_alloc]; omega
  have B5 : Hid (Abx wo3 (w.heap.size) (.bool c1) (.slice sa1 sz1.length sc1) (.slice da1 dz1.length dc1)) := by rw [hwo3]; exact (n1.al (.cells #[.int .i64 5, .int .i64 3, .int .i64 5] 3))
  have L6 : Hid (MidC (w.heap.size + 1) (w.heap.size + 1 + 1) wo3 (some ⟨w.heap.size + 1, 0, none⟩) ([5, 3, 5]) (3)) := by rw [hwo3]; exact n2
  have hb7 : Hid (Below w.heap.size w wo3) := by rw [hwo3]; exact (((Below.refl w.heap.size w).alloc (by omega) (.cells #[.bool c1, .slice sa1 sz1.length sc1, .slice da1 dz1.length dc1] 24)).alloc (by simp only [World.size_alloc]; omega) (.cells #[.int .i64 5, .int .i64 3, .int .i64 5] 3))
  have zwo3 : w.heap.size ≤ wo3.heap.size := hb7.out.size
  clear hwo3 n1 n2
  refine (vec_c (some ⟨w.heap.size + 1, 0, none⟩) 3 [5, 3, 5] (by simp) _ (L6.out.is (by omega)).1).mono ?_
  rintro e v1 ⟨vap, vcp, gap, gcp, rfl, hVp, hGp, hB⟩
  have z8 : wo3.heap.size ≤ v1.heap.size := hB.size
  have B9 : Hid (Abx v1 (w.heap.size) (.bool c1) (.slice sa1 sz1.length sc1) (.slice da1 dz1.length dc1)) := B5.out.go hB
  have L10 : Hid (MidC (w.heap.size + 1) (w.heap.size + 1 + 1) v1 (some ⟨w.heap.size + 1, 0, none⟩) ([5, 3, 5]) (3)) := L6.out.go (by omega) hB
  have hb11 : Hid (Below w.heap.size w v1) := hb7.out.trans (hB.mono hb7.out.size)
  have L12 : Hid (MidC (wo3.heap.size) (v1.heap.size) v1 (vap) ([(3 : Int)]) (vcp)) := hVp.midc
  have L13 : Hid (MidC (wo3.heap.size) (v1.heap.size) v1 (gap) ([5, 3, 5]) (gcp)) := hGp.midc
  clear hB hb7 B5 L6 hVp hGp
  clear L10
  go_wp2_with fail
  refine (upw_ok false vap vcp [(3 : Int)] 1 rfl gap gcp [5, 3, 5] 3 rfl _ (by decide) (by decide) (L12.out.is (by omega)) (L13.out.is (by omega)) [1, 0, 2] HU (by decide)).mono ?_
  rintro e v2 ⟨g0, h0, rfl, hN0, hB⟩
  have z14 : v1.heap.size ≤ v2.heap.size := hB.size
  have B15 : Hid (Abx v2 (w.heap.size) (.bool c1) (.slice sa1 sz1.length sc1) (.slice da1 dz1.length dc1)) := B9.out.go hB
  have L16 : Hid (MidC (wo3.heap.size) (v1.heap.size) v2 (vap) ([(3 : Int)]) (vcp)) := L12.out.go (by omega) hB
  have L17 : Hid (MidC (wo3.heap.size) (v1.heap.size) v2 (gap) ([5, 3, 5]) (gcp)) := L13.out.go (by omega) hB
  have hb18 : Hid (Below w.heap.size w v2) := hb11.out.trans (hB.mono hb11.out.size)
  have L19 : Hid (MidC (v1.heap.size) (v2.heap.size) v2 (g0) ([1, 0, 2]) (h0)) := hN0.midc
  clear hB hb11 B9 L12 L13 hN0
  clear L16 L17
  have n20 := lit_mid v2 3 [1, 0, 2] 3 rfl
  simp only [List.map_cons, List.map_nil] at n20
  go_wp2_with fail
  obtain ⟨wo21, hwo21⟩ : ∃ wo21, wo21 = (v2.alloc (.cells #[.int .i64 1, .int .i64 0, .int .i64 2] 3)) := ⟨_, rfl⟩
  rw [← hwo21]
  have z22 : v2.heap.size + 1 ≤ wo21.heap.size := by rw [hwo21]; simp only [World.size_alloc]; omega
  have B23 : Hid (Abx wo21 (w.heap.size) (.bool c1) (.slice sa1 sz1.length sc1) (.slice da1 dz1.length dc1)) := by rw [hwo21]; exact (B15.out.al (.cells #[.int .i64 1, .int .i64 0, .int .i64 2] 3))
  have L24 : Hid (MidC (v1.heap.size) (v2.heap.size) wo21 (g0) ([1, 0, 2]) (h0)) := by rw [hwo21]; exact (L19.out.al (by omega) (.cells #[.int .i64 1, .int .i64 0, .int .i64 2] 3))
  have L25 : Hid (MidC (v2.heap.size) (v2.heap.size + 1) wo21 (some ⟨v2.heap.size, 0, none⟩) ([1, 0, 2]) (3)) := by rw [hwo21]; exact n20
  have hb26 : Hid (Below w.heap.size w wo21) := by rw [hwo21]; exact (hb18.out.alloc (by omega) (.cells #[.int .i64 1, .int .i64 0, .int .i64 2] 3))
  have zwo21 : w.heap.size ≤ wo21.heap.size := hb26.out.size
  clear hwo21 n20 hb18 B15 L19
  refine (ints_any g0 h0 [1, 0, 2] (some ⟨v2.heap.size, 0, none⟩) 3 [1, 0, 2] (by simp) _ _ (L24.out.is (by omega)).1 (L25.out.is (by omega)).1).mono ?_
  rintro e v3 ⟨rfl, hB⟩
  have z27 : wo21.heap.size ≤ v3.heap.size := hB.size
  have B28 : Hid (Abx v3 (w.heap.size) (.bool c1) (.slice sa1 sz1.length sc1) (.slice da1 dz1.length dc1)) := B23.out.go hB
  have L29 : Hid (MidC (v1.heap.size) (v2.heap.size) v3 (g0) ([1, 0, 2]) (h0)) := L24.out.go (by omega) hB
  have L30 : Hid (MidC (v2.heap.size) (v2.heap.size + 1) v3 (some ⟨v2.heap.size, 0, none⟩) ([1, 0, 2]) (3)) := L25.out.go (by omega) hB
  have hb31 : Hid (Below w.heap.size w v3) := hb26.out.trans (hB.mono hb26.out.size)
  clear hB hb26 B23 L24 L25
  rw [eqB_true rfl]
  clear L29 L30
  have l32 := (B28.out).c0
  have l33 := (B28.out).c1
  have l34 := (B28.out).c2
  go_wp2_with fail
  clear l32 l33 l34
  refine (upw_ok c1 sa1 sc1 sz1 sz1.length rfl da1 dc1 dz1 dz1.length rfl _ x11 x12 ((HI1.out.1.below hb31.out).mono hb31.out.size) ((HI1.out.2.1.below hb31.out).mono hb31.out.size) O HU HO.out).mono ?_
  rintro e v4 ⟨g1, h1, rfl, hN1, hB⟩
  have z35 : v3.heap.size ≤ v4.heap.size := hB.size
  have B36 : Hid (Abx v4 (w.heap.size) (.bool c1) (.slice sa1 sz1.length sc1) (.slice da1 dz1.length dc1)) := B28.out.go hB
  have hb37 : Hid (Below w.heap.size w v4) := hb31.out.trans (hB.mono hb31.out.size)
  have L38 : Hid (MidC (v3.heap.size) (v4.heap.size) v4 (g1) (O) (h1)) := hN1.midc
  clear hB hb31 B28 hN1
  go_wp2_with fail
  refine (perm_ok10 g1 h1 O O.length rfl (by omega) _ (L38.out.is (by omega)).1 HOL.out.2.1).mono ?_
  rintro e v5 ⟨rfl, hB⟩
  have z39 : v4.heap.size ≤ v5.heap.size := hB.size
  have B40 : Hid (Abx v5 (w.heap.size) (.bool c1) (.slice sa1 sz1.length sc1) (.slice da1 dz1.length dc1)) := B36.out.go hB
  have L41 : Hid (MidC (v3.heap.size) (v4.heap.size) v5 (g1) (O) (h1)) := L38.out.go (by omega) hB
  have hb42 : Hid (Below w.heap.size w v5) := hb37.out.trans (hB.mono hb37.out.size)
  clear hB hb37 B36 L38
  have l43 := (B40.out).c0
  have l44 := (B40.out).c1
  have l45 := (B40.out).c2
  go_wp2_with fail
  clear l43 l44 l45
  refine (rowsr_any c1 sa1 sc1 sz1 da1 dc1 dz1 F1.out n lo HNL.out.1 HNL.out.2 _ ((HI1.out.1.1.below hb42.out).mono hb42.out.size)).mono ?_
  rintro e v6 ⟨rfl, hB⟩
  have z46 : v5.heap.size ≤ v6.heap.size := hB.size
  have B47 : Hid (Abx v6 (w.heap.size) (.bool c1) (.slice sa1 sz1.length sc1) (.slice da1 dz1.length dc1)) := B40.out.go hB
  have L48 : Hid (MidC (v3.heap.size) (v4.heap.size) v6 (g1) (O) (h1)) := L41.out.go (by omega) hB
  have hb49 : Hid (Below w.heap.size w v6) := hb42.out.trans (hB.mono hb42.out.size)
  clear hB hb42 B40 L41
  have tl : ((O.length : Int) != (n : Int)) = false := by have := HOL.out.1; simp; omega
  go_wp2_with fail
  clear tl
  go_loopw [11] (fun i wr => ∃ k : Nat, 1 ≤ k ∧ (k ≤ n ∨ k = 1) ∧ i = .int .i64 k ∧ Below v6.heap.size v6 wr) (fun i _ => n - (intOf i).toNat)
  case atStart => exact ⟨1, Nat.le_refl _, .inr rfl, rfl, Below.refl _ _⟩
  case round =>
    obtain ⟨k, hk1, hk2, rfl, hBv⟩ := hrel
    have HBv : Hid (Below v6.heap.size v6 wr) := hBv
    have HBw : Hid (Below w.heap.size w wr) := hb49.out.trans (hBv.mono hb49.out.size)
    have HA : Hid (Abx wr w.heap.size (.bool c1) (.slice sa1 sz1.length sc1) (.slice da1 dz1.length dc1)) := B47.out.go hBv
    by_cases hkn : k < n
    · obtain ⟨K, hK⟩ : ∃ K : Nat, k = K + 1 := ⟨k - 1, by omega⟩
      have hIO : IsInts v6.heap.size wr g1 O := ((L48.out.is (by omega)).below hBv).1
      obtain ⟨bo, oo, rfl, hbo, hcO⟩ := hIO.at (q := k) (by omega)
      have ck := hcO k (by omega)
      have cK := hcO K (by omega)
      have o1 := ord_at HOL.out.2.1 (i := k) (by omega)
      have o2 := ord_at HOL.out.2.1 (i := K) (by omega)
      obtain ⟨X, hX⟩ : ∃ X, X = (nth O K).toNat := ⟨_, rfl⟩
      obtain ⟨Y, hY⟩ : ∃ Y, Y = (nth O k).toNat := ⟨_, rfl⟩
      have hXn : X < n := by omega
      have hYn : Y < n := by omega
      rw [show nth O k = (Y : Int) by omega] at ck
      rw [show nth O K = (X : Int) by omega] at cK
      obtain ⟨C, hC⟩ : ∃ C, cmpL (rwL dz1 lo X) (rwL dz1 lo Y) = C := ⟨_, rfl⟩
      have hR := HRS.out K (by omega)
      rw [← hX, ← hK, ← hY, hC] at hR
      have HCC : Hid (cmpL (rwL dz1 lo X) (rwL dz1 lo Y) = C) := hC
      have hlx := rwL_length HOL.out.2.2 hXn
      have hly := rwL_length HOL.out.2.2 hYn
      obtain ⟨K0, hK0⟩ : ∃ K0, K0 = X * lo := ⟨_, rfl⟩
      obtain ⟨J0, hJ0⟩ : ∃ J0, J0 = Y * lo := ⟨_, rfl⟩
      have b1 : K0 + lo ≤ dz1.length := by have h6 := Nat.mul_le_mul_right lo (show X + 1 ≤ n by omega); rw [Nat.add_mul, Nat.one_mul, ← hK0] at h6; have := HOL.out.2.2; omega
      have b2 : J0 + lo ≤ dz1.length := by have h6 := Nat.mul_le_mul_right lo (show Y + 1 ≤ n by omega); rw [Nat.add_mul, Nat.one_mul, ← hJ0] at h6; have := HOL.out.2.2; omega
      have hdc : dz1.length ≤ dc1 := HI1.out.2.1.2
      obtain ⟨AX, hAX⟩ : ∃ AX : Option Addr, (if dc1 = K0 then da1 else Option.map (fun x => x.add K0) da1) = AX := ⟨_, rfl⟩
      obtain ⟨AY, hAY⟩ : ∃ AY : Option Addr, (if dc1 = J0 then da1 else Option.map (fun x => x.add J0) da1) = AY := ⟨_, rfl⟩
      have hdw : IsC w.heap.size wr da1 dz1 dc1 := HI1.out.2.1.below HBw.out
      have HIX : Hid (IsInts w.heap.size wr AX (rwL dz1 lo X) ∧ IsInts w.heap.size wr AY (rwL dz1 lo Y)) := ⟨row_cut hdw HOL.out.2.2 hXn (by rw [← hK0]; exact hAX), row_cut hdw HOL.out.2.2 hYn (by rw [← hJ0]; exact hAY)⟩
      obtain ⟨K1, hK1⟩ : ∃ K1, K1 = K0 + lo := ⟨_, rfl⟩
      obtain ⟨J1, hJ1⟩ : ∃ J1, J1 = J0 + lo := ⟨_, rfl⟩
      have w1 : IntKind.i64.wrap ((X : Int) * (lo : Int)) = (K0 : Int) := by rw [show (X : Int) * (lo : Int) = (K0 : Int) by rw [hK0]; exact (Int.natCast_mul _ _).symm]; exact IntWalk.i64_in _ (by omega)
      have w2 : IntKind.i64.wrap ((Y : Int) * (lo : Int)) = (J0 : Int) := by rw [show (Y : Int) * (lo : Int) = (J0 : Int) by rw [hJ0]; exact (Int.natCast_mul _ _).symm]; exact IntWalk.i64_in _ (by omega)
      have w3 : IntKind.i64.wrap ((K0 : Int) + (lo : Int)) = (K1 : Int) := by rw [wr_sm (by omega)]; omega
      have w4 : IntKind.i64.wrap ((J0 : Int) + (lo : Int)) = (J1 : Int) := by rw [wr_sm (by omega)]; omega
      have s1 : K1 - K0 = lo := by omega
      have s2 : J1 - J0 = lo := by omega
      have s3 : K0 ≤ K1 := by omega
      have s4 : J0 ≤ J1 := by omega
      have s5 : K1 ≤ dc1 := by omega
      have s6 : J1 ≤ dc1 := by omega
      have w5 : IntKind.i64.wrap ((k : Int) - 1) = (K : Int) := by rw [wr_sm (by omega)]; omega
      have w6 : (k : Int) - 1 = (K : Int) := by omega
      have hlo4 : lo ≤ 4096 := by omega
      have hOl : K < O.length := by omega
      have hOk : k < O.length := by omega
      have p2 := HA.out.c2
      have HLL : Hid ((rwL dz1 lo X).length = lo ∧ (rwL dz1 lo Y).length = lo) := ⟨hlx, hly⟩
      have HXY : Hid (C < 0 ∨ (C = 0 ∧ X < Y)) := hR
      obtain ⟨D, hD⟩ : ∃ D, D = dz1.length := ⟨_, rfl⟩
      rw [← hD] at p2
      clear hcO o1 o2 hX hY hC hR hlx hly hK0 hJ0 hK1 hJ1 hBv hdw hIO hD hK
      by_cases hc : C < 0
      · have t1 : decide (C > 0) = false := decide_eq_false (by omega)
        have t2 : (C == 0) = false := by rw [beq_eq_false_iff_ne]; omega
        go_wp2_with fail
        refine anyT_begin 23 (fun w' => w'.cell? ⟨w.heap.size, 2, none⟩ = some (.slice da1 D dc1)) 24 #[false, false, false, false, false, false, false, false, false, false, false, false, false, false, false, false, false, false, false, false, false, false, false, false] (by kernel_rfl) rfl rfl ?_
        refine anyT_put 0 66 ?rv0 #[true, false, false, false, false, false, false, false, false, false, false, false, false, false, false, false, false, false, false, false, false, false, false, false] rfl rfl rfl (by kernel_rfl) (by kernel_rfl) (by kernel_rfl) (fun _ _ _ h => h) (by decide) ?ry0 (fun _ => p2) ?rm0
        case ry0 => first | exact Or.inl ⟨by rfl, by intro w'; go_simp; first | done | rfl⟩
        case rm0 =>
        simp only [Act.put, List.setIfInBounds_toArray, List.set_cons_zero, List.set_cons_succ]
        refine anyT_take 1 67 ?rv1 #[true, true, false, false, false, false, false, false, false, false, false, false, false, false, false, false, false, false, false, false, false, false, false, false] rfl rfl rfl (by kernel_rfl) (by kernel_rfl) (by kernel_rfl) (fun _ _ _ h => h) (by kernel_rfl) (by decide) (by kernel_rfl) ?ry1 (p2) ?rm1
        case ry1 => first | exact Or.inl ⟨by rfl, by intro w' hw'; (try dsimp only at hw'); go_simp; first | done | rfl⟩
        case rm1 =>
        simp only [Act.put, List.setIfInBounds_toArray, List.set_cons_zero, List.set_cons_succ]
        refine anyT_put 2 68 ?rv2 #[true, true, true, false, false, false, false, false, false, false, false, false, false, false, false, false, false, false, false, false, false, false, false, false] rfl rfl rfl (by kernel_rfl) (by kernel_rfl) (by kernel_rfl) (fun _ _ _ h => h) (by decide) ?ry2 (fun _ => p2) ?rm2
        case ry2 => first | exact Or.inl ⟨by rfl, by intro w'; go_simp; first | done | rfl⟩
        case rm2 =>
        simp only [Act.put, List.setIfInBounds_toArray, List.set_cons_zero, List.set_cons_succ]
        refine anyT_put 3 69 ?rv3 #[true, true, true, true, false, false, false, false, false, false, false, false, false, false, false, false, false, false, false, false, false, false, false, false] rfl rfl rfl (by kernel_rfl) (by kernel_rfl) (by kernel_rfl) (fun _ _ _ h => h) (by decide) ?ry3 (fun _ => p2) ?rm3
        case ry3 => first | exact Or.inl ⟨by rfl, by intro w'; go_simp; first | done | rfl⟩
        case rm3 =>
        simp only [Act.put, List.setIfInBounds_toArray, List.set_cons_zero, List.set_cons_succ]
        refine anyT_put 4 70 ?rv4 #[true, true, true, true, true, false, false, false, false, false, false, false, false, false, false, false, false, false, false, false, false, false, false, false] rfl rfl rfl (by kernel_rfl) (by kernel_rfl) (by kernel_rfl) (fun _ _ _ h => h) (by decide) ?ry4 (fun _ => p2) ?rm4
        case ry4 => first | exact Or.inl ⟨by rfl, by intro w'; go_simp; first | done | rfl⟩
        case rm4 =>
        simp only [Act.put, List.setIfInBounds_toArray, List.set_cons_zero, List.set_cons_succ]
        refine anyT_put 5 71 ?rv5 #[true, true, true, true, true, true, false, false, false, false, false, false, false, false, false, false, false, false, false, false, false, false, false, false] rfl rfl rfl (by kernel_rfl) (by kernel_rfl) (by kernel_rfl) (fun _ _ _ h => h) (by decide) ?ry5 (fun _ => p2) ?rm5
        case ry5 => first | exact Or.inl ⟨by rfl, by intro w'; go_simp; first | done | rfl⟩
        case rm5 =>
        simp only [Act.put, List.setIfInBounds_toArray, List.set_cons_zero, List.set_cons_succ]
        refine anyT_put 6 72 ?rv6 #[true, true, true, true, true, true, true, false, false, false, false, false, false, false, false, false, false, false, false, false, false, false, false, false] rfl rfl rfl (by kernel_rfl) (by kernel_rfl) (by kernel_rfl) (fun _ _ _ h => h) (by decide) ?ry6 (fun _ => p2) ?rm6
        case ry6 => first | exact Or.inl ⟨by rfl, by intro w'; go_simp; first | done | rfl⟩
        case rm6 =>
        simp only [Act.put, List.setIfInBounds_toArray, List.set_cons_zero, List.set_cons_succ]
        refine anyT_put 7 73 ?rv7 #[true, true, true, true, true, true, true, true, false, false, false, false, false, false, false, false, false, false, false, false, false, false, false, false] rfl rfl rfl (by kernel_rfl) (by kernel_rfl) (by kernel_rfl) (fun _ _ _ h => h) (by decide) ?ry7 (fun _ => p2) ?rm7
        case ry7 => first | exact Or.inl ⟨by rfl, by intro w'; go_simp; first | done | rfl⟩
        case rm7 =>
        simp only [Act.put, List.setIfInBounds_toArray, List.set_cons_zero, List.set_cons_succ]
        refine anyT_put 8 74 ?rv8 #[true, true, true, true, true, true, true, true, true, false, false, false, false, false, false, false, false, false, false, false, false, false, false, false] rfl rfl rfl (by kernel_rfl) (by kernel_rfl) (by kernel_rfl) (fun _ _ _ h => h) (by decide) ?ry8 (fun _ => p2) ?rm8
        case ry8 => first | exact Or.inl ⟨by rfl, by intro w'; go_simp; first | done | rfl⟩
        case rm8 =>
        simp only [Act.put, List.setIfInBounds_toArray, List.set_cons_zero, List.set_cons_succ]
        refine anyT_put 9 75 ?rv9 #[true, true, true, true, true, true, true, true, true, true, false, false, false, false, false, false, false, false, false, false, false, false, false, false] rfl rfl rfl (by kernel_rfl) (by kernel_rfl) (by kernel_rfl) (fun _ _ _ h => h) (by decide) ?ry9 (fun _ => p2) ?rm9
        case ry9 => first | exact Or.inl ⟨by rfl, by intro w'; go_simp; first | done | rfl⟩
        case rm9 =>
        simp only [Act.put, List.setIfInBounds_toArray, List.set_cons_zero, List.set_cons_succ]
        refine anyT_put 10 76 ?rv10 #[true, true, true, true, true, true, true, true, true, true, true, false, false, false, false, false, false, false, false, false, false, false, false, false] rfl rfl rfl (by kernel_rfl) (by kernel_rfl) (by kernel_rfl) (fun _ _ _ h => h) (by decide) ?ry10 (fun _ => p2) ?rm10
        case ry10 => first | exact Or.inl ⟨by rfl, by intro w'; go_simp; first | done | rfl⟩
        case rm10 =>
        simp only [Act.put, List.setIfInBounds_toArray, List.set_cons_zero, List.set_cons_succ]
        refine anyT_put 11 77 ?rv11 #[true, true, true, true, true, true, true, true, true, true, true, true, false, false, false, false, false, false, false, false, false, false, false, false] rfl rfl rfl (by kernel_rfl) (by kernel_rfl) (by kernel_rfl) (fun _ _ _ h => h) (by decide) ?ry11 (fun _ => p2) ?rm11
        case ry11 => first | exact Or.inl ⟨by rfl, by intro w'; go_simp; first | done | rfl⟩
        case rm11 =>
        simp only [Act.put, List.setIfInBounds_toArray, List.set_cons_zero, List.set_cons_succ]
        refine anyT_take 12 78 ?rv12 #[true, true, true, true, true, true, true, true, true, true, true, true, true, false, false, false, false, false, false, false, false, false, false, false] rfl rfl rfl (by kernel_rfl) (by kernel_rfl) (by kernel_rfl) (fun _ _ _ h => h) (by kernel_rfl) (by decide) (by kernel_rfl) ?ry12 (p2) ?rm12
        case ry12 => first | exact Or.inl ⟨by rfl, by intro w' hw'; (try dsimp only at hw'); go_simp; first | done | rfl⟩
        case rm12 =>
        simp only [Act.put, List.setIfInBounds_toArray, List.set_cons_zero, List.set_cons_succ]
        refine anyT_put 13 79 ?rv13 #[true, true, true, true, true, true, true, true, true, true, true, true, true, true, false, false, false, false, false, false, false, false, false, false] rfl rfl rfl (by kernel_rfl) (by kernel_rfl) (by kernel_rfl) (fun _ _ _ h => h) (by decide) ?ry13 (fun _ => p2) ?rm13
        case ry13 => first | exact Or.inl ⟨by rfl, by intro w'; go_simp; first | done | rfl⟩
        case rm13 =>
        simp only [Act.put, List.setIfInBounds_toArray, List.set_cons_zero, List.set_cons_succ]
        refine anyT_put 14 80 ?rv14 #[true, true, true, true, true, true, true, true, true, true, true, true, true, true, true, false, false, false, false, false, false, false, false, false] rfl rfl rfl (by kernel_rfl) (by kernel_rfl) (by kernel_rfl) (fun _ _ _ h => h) (by decide) ?ry14 (fun _ => p2) ?rm14
        case ry14 => first | exact Or.inl ⟨by rfl, by intro w'; go_simp; first | done | rfl⟩
        case rm14 =>
        simp only [Act.put, List.setIfInBounds_toArray, List.set_cons_zero, List.set_cons_succ]
        refine anyT_put 15 81 ?rv15 #[true, true, true, true, true, true, true, true, true, true, true, true, true, true, true, true, false, false, false, false, false, false, false, false] rfl rfl rfl (by kernel_rfl) (by kernel_rfl) (by kernel_rfl) (fun _ _ _ h => h) (by decide) ?ry15 (fun _ => p2) ?rm15
        case ry15 => first | exact Or.inl ⟨by rfl, by intro w'; go_simp; first | done | rfl⟩
        case rm15 =>
        simp only [Act.put, List.setIfInBounds_toArray, List.set_cons_zero, List.set_cons_succ]
        refine anyT_put 16 82 ?rv16 #[true, true, true, true, true, true, true, true, true, true, true, true, true, true, true, true, true, false, false, false, false, false, false, false] rfl rfl rfl (by kernel_rfl) (by kernel_rfl) (by kernel_rfl) (fun _ _ _ h => h) (by decide) ?ry16 (fun _ => p2) ?rm16
        case ry16 => first | exact Or.inl ⟨by rfl, by intro w'; go_simp; first | done | rfl⟩
        case rm16 =>
        simp only [Act.put, List.setIfInBounds_toArray, List.set_cons_zero, List.set_cons_succ]
        refine anyT_put 17 83 ?rv17 #[true, true, true, true, true, true, true, true, true, true, true, true, true, true, true, true, true, true, false, false, false, false, false, false] rfl rfl rfl (by kernel_rfl) (by kernel_rfl) (by kernel_rfl) (fun _ _ _ h => h) (by decide) ?ry17 (fun _ => p2) ?rm17
        case ry17 => first | exact Or.inl ⟨by rfl, by intro w'; go_simp; first | done | rfl⟩
        case rm17 =>
        simp only [Act.put, List.setIfInBounds_toArray, List.set_cons_zero, List.set_cons_succ]
        refine anyT_put 18 84 ?rv18 #[true, true, true, true, true, true, true, true, true, true, true, true, true, true, true, true, true, true, true, false, false, false, false, false] rfl rfl rfl (by kernel_rfl) (by kernel_rfl) (by kernel_rfl) (fun _ _ _ h => h) (by decide) ?ry18 (fun _ => p2) ?rm18
        case ry18 => first | exact Or.inl ⟨by rfl, by intro w'; go_simp; first | done | rfl⟩
        case rm18 =>
        simp only [Act.put, List.setIfInBounds_toArray, List.set_cons_zero, List.set_cons_succ]
        refine anyT_put 19 85 ?rv19 #[true, true, true, true, true, true, true, true, true, true, true, true, true, true, true, true, true, true, true, true, false, false, false, false] rfl rfl rfl (by kernel_rfl) (by kernel_rfl) (by kernel_rfl) (fun _ _ _ h => h) (by decide) ?ry19 (fun _ => p2) ?rm19
        case ry19 => first | exact Or.inl ⟨by rfl, by intro w'; go_simp; first | done | rfl⟩
        case rm19 =>
        simp only [Act.put, List.setIfInBounds_toArray, List.set_cons_zero, List.set_cons_succ]
        refine anyT_put 20 86 ?rv20 #[true, true, true, true, true, true, true, true, true, true, true, true, true, true, true, true, true, true, true, true, true, false, false, false] rfl rfl rfl (by kernel_rfl) (by kernel_rfl) (by kernel_rfl) (fun _ _ _ h => h) (by decide) ?ry20 (fun _ => p2) ?rm20
        case ry20 => first | exact Or.inl ⟨by rfl, by intro w'; go_simp; first | done | rfl⟩
        case rm20 =>
        simp only [Act.put, List.setIfInBounds_toArray, List.set_cons_zero, List.set_cons_succ]
        refine anyT_put 21 87 ?rv21 #[true, true, true, true, true, true, true, true, true, true, true, true, true, true, true, true, true, true, true, true, true, true, false, false] rfl rfl rfl (by kernel_rfl) (by kernel_rfl) (by kernel_rfl) (fun _ _ _ h => h) (by decide) ?ry21 (fun _ => p2) ?rm21
        case ry21 => first | exact Or.inl ⟨by rfl, by intro w'; go_simp; first | done | rfl⟩
        case rm21 =>
        simp only [Act.put, List.setIfInBounds_toArray, List.set_cons_zero, List.set_cons_succ]
        refine anyT_one 22 #[true, true, true, true, true, true, true, true, true, true, true, true, true, true, true, true, true, true, true, true, true, true, true, false] (by kernel_rfl) rfl rfl (fun K hK => ?_)
        go_simp
        go_wp2_with fail
        refine (cmp_l AX (dc1 - K0) (rwL dz1 lo X) lo HLL.out.1 AY (dc1 - J0) (rwL dz1 lo Y) lo HLL.out.2 C HCC.out rfl (by omega) w.heap.size wr.drew HIX.out.1 HIX.out.2).mono ?_
        rintro e v9 ⟨rfl, hB9⟩
        have HB9 : Hid (Below wr.heap.size wr v9) := (Below.refl _ wr).drew.trans hB9
        have q2 : v9.cell? ⟨w.heap.size, 2, none⟩ = some (.slice da1 D dc1) := (HB9.out.cell (p := ⟨w.heap.size, 2, none⟩) HA.out.lt).trans p2
        clear hB9
        refine hK.out _ _ (fun _ => q2) ?_
        clear hK K
        refine anyT_one 23 #[true, true, true, true, true, true, true, true, true, true, true, true, true, true, true, true, true, true, true, true, true, true, true, true] (by kernel_rfl) rfl rfl (fun K hK => ?_)
        go_simp
        refine hK.out _ _ (fun h => absurd h (by decide)) ?_
        clear hK K
        refine anyT_done (by kernel_rfl) ?_
        go_wp2_with fail
        exact ⟨⟨k + 1, by omega, .inl (by omega), by go_num, HBv.out.trans (HB9.out.mono HBv.out.size)⟩, by simp [intOf]; omega⟩
      · obtain ⟨rfl, hxy⟩ : C = 0 ∧ X < Y := by have := HXY.out; omega
        have t3 : decide ((X : Int) > (Y : Int)) = false := decide_eq_false (by omega)
        go_wp2_with fail
        refine anyT_begin 23 (fun w' => w'.cell? ⟨w.heap.size, 2, none⟩ = some (.slice da1 D dc1)) 24 #[false, false, false, false, false, false, false, false, false, false, false, false, false, false, false, false, false, false, false, false, false, false, false, false] (by kernel_rfl) rfl rfl ?_
        refine anyT_put 0 66 ?rv24 #[true, false, false, false, false, false, false, false, false, false, false, false, false, false, false, false, false, false, false, false, false, false, false, false] rfl rfl rfl (by kernel_rfl) (by kernel_rfl) (by kernel_rfl) (fun _ _ _ h => h) (by decide) ?ry24 (fun _ => p2) ?rm24
        case ry24 => first | exact Or.inl ⟨by rfl, by intro w'; go_simp; first | done | rfl⟩
        case rm24 =>
        simp only [Act.put, List.setIfInBounds_toArray, List.set_cons_zero, List.set_cons_succ]
        refine anyT_take 1 67 ?rv25 #[true, true, false, false, false, false, false, false, false, false, false, false, false, false, false, false, false, false, false, false, false, false, false, false] rfl rfl rfl (by kernel_rfl) (by kernel_rfl) (by kernel_rfl) (fun _ _ _ h => h) (by kernel_rfl) (by decide) (by kernel_rfl) ?ry25 (p2) ?rm25
        case ry25 => first | exact Or.inl ⟨by rfl, by intro w' hw'; (try dsimp only at hw'); go_simp; first | done | rfl⟩
        case rm25 =>
        simp only [Act.put, List.setIfInBounds_toArray, List.set_cons_zero, List.set_cons_succ]
        refine anyT_put 2 68 ?rv26 #[true, true, true, false, false, false, false, false, false, false, false, false, false, false, false, false, false, false, false, false, false, false, false, false] rfl rfl rfl (by kernel_rfl) (by kernel_rfl) (by kernel_rfl) (fun _ _ _ h => h) (by decide) ?ry26 (fun _ => p2) ?rm26
        case ry26 => first | exact Or.inl ⟨by rfl, by intro w'; go_simp; first | done | rfl⟩
        case rm26 =>
        simp only [Act.put, List.setIfInBounds_toArray, List.set_cons_zero, List.set_cons_succ]
        refine anyT_put 3 69 ?rv27 #[true, true, true, true, false, false, false, false, false, false, false, false, false, false, false, false, false, false, false, false, false, false, false, false] rfl rfl rfl (by kernel_rfl) (by kernel_rfl) (by kernel_rfl) (fun _ _ _ h => h) (by decide) ?ry27 (fun _ => p2) ?rm27
        case ry27 => first | exact Or.inl ⟨by rfl, by intro w'; go_simp; first | done | rfl⟩
        case rm27 =>
        simp only [Act.put, List.setIfInBounds_toArray, List.set_cons_zero, List.set_cons_succ]
        refine anyT_put 4 70 ?rv28 #[true, true, true, true, true, false, false, false, false, false, false, false, false, false, false, false, false, false, false, false, false, false, false, false] rfl rfl rfl (by kernel_rfl) (by kernel_rfl) (by kernel_rfl) (fun _ _ _ h => h) (by decide) ?ry28 (fun _ => p2) ?rm28
        case ry28 => first | exact Or.inl ⟨by rfl, by intro w'; go_simp; first | done | rfl⟩
        case rm28 =>
        simp only [Act.put, List.setIfInBounds_toArray, List.set_cons_zero, List.set_cons_succ]
        refine anyT_put 5 71 ?rv29 #[true, true, true, true, true, true, false, false, false, false, false, false, false, false, false, false, false, false, false, false, false, false, false, false] rfl rfl rfl (by kernel_rfl) (by kernel_rfl) (by kernel_rfl) (fun _ _ _ h => h) (by decide) ?ry29 (fun _ => p2) ?rm29
        case ry29 => first | exact Or.inl ⟨by rfl, by intro w'; go_simp; first | done | rfl⟩
        case rm29 =>
        simp only [Act.put, List.setIfInBounds_toArray, List.set_cons_zero, List.set_cons_succ]
        refine anyT_put 6 72 ?rv30 #[true, true, true, true, true, true, true, false, false, false, false, false, false, false, false, false, false, false, false, false, false, false, false, false] rfl rfl rfl (by kernel_rfl) (by kernel_rfl) (by kernel_rfl) (fun _ _ _ h => h) (by decide) ?ry30 (fun _ => p2) ?rm30
        case ry30 => first | exact Or.inl ⟨by rfl, by intro w'; go_simp; first | done | rfl⟩
        case rm30 =>
        simp only [Act.put, List.setIfInBounds_toArray, List.set_cons_zero, List.set_cons_succ]
        refine anyT_put 7 73 ?rv31 #[true, true, true, true, true, true, true, true, false, false, false, false, false, false, false, false, false, false, false, false, false, false, false, false] rfl rfl rfl (by kernel_rfl) (by kernel_rfl) (by kernel_rfl) (fun _ _ _ h => h) (by decide) ?ry31 (fun _ => p2) ?rm31
        case ry31 => first | exact Or.inl ⟨by rfl, by intro w'; go_simp; first | done | rfl⟩
        case rm31 =>
        simp only [Act.put, List.setIfInBounds_toArray, List.set_cons_zero, List.set_cons_succ]
        refine anyT_put 8 74 ?rv32 #[true, true, true, true, true, true, true, true, true, false, false, false, false, false, false, false, false, false, false, false, false, false, false, false] rfl rfl rfl (by kernel_rfl) (by kernel_rfl) (by kernel_rfl) (fun _ _ _ h => h) (by decide) ?ry32 (fun _ => p2) ?rm32
        case ry32 => first | exact Or.inl ⟨by rfl, by intro w'; go_simp; first | done | rfl⟩
        case rm32 =>
        simp only [Act.put, List.setIfInBounds_toArray, List.set_cons_zero, List.set_cons_succ]
        refine anyT_put 9 75 ?rv33 #[true, true, true, true, true, true, true, true, true, true, false, false, false, false, false, false, false, false, false, false, false, false, false, false] rfl rfl rfl (by kernel_rfl) (by kernel_rfl) (by kernel_rfl) (fun _ _ _ h => h) (by decide) ?ry33 (fun _ => p2) ?rm33
        case ry33 => first | exact Or.inl ⟨by rfl, by intro w'; go_simp; first | done | rfl⟩
        case rm33 =>
        simp only [Act.put, List.setIfInBounds_toArray, List.set_cons_zero, List.set_cons_succ]
        refine anyT_put 10 76 ?rv34 #[true, true, true, true, true, true, true, true, true, true, true, false, false, false, false, false, false, false, false, false, false, false, false, false] rfl rfl rfl (by kernel_rfl) (by kernel_rfl) (by kernel_rfl) (fun _ _ _ h => h) (by decide) ?ry34 (fun _ => p2) ?rm34
        case ry34 => first | exact Or.inl ⟨by rfl, by intro w'; go_simp; first | done | rfl⟩
        case rm34 =>
        simp only [Act.put, List.setIfInBounds_toArray, List.set_cons_zero, List.set_cons_succ]
        refine anyT_put 11 77 ?rv35 #[true, true, true, true, true, true, true, true, true, true, true, true, false, false, false, false, false, false, false, false, false, false, false, false] rfl rfl rfl (by kernel_rfl) (by kernel_rfl) (by kernel_rfl) (fun _ _ _ h => h) (by decide) ?ry35 (fun _ => p2) ?rm35
        case ry35 => first | exact Or.inl ⟨by rfl, by intro w'; go_simp; first | done | rfl⟩
        case rm35 =>
        simp only [Act.put, List.setIfInBounds_toArray, List.set_cons_zero, List.set_cons_succ]
        refine anyT_take 12 78 ?rv36 #[true, true, true, true, true, true, true, true, true, true, true, true, true, false, false, false, false, false, false, false, false, false, false, false] rfl rfl rfl (by kernel_rfl) (by kernel_rfl) (by kernel_rfl) (fun _ _ _ h => h) (by kernel_rfl) (by decide) (by kernel_rfl) ?ry36 (p2) ?rm36
        case ry36 => first | exact Or.inl ⟨by rfl, by intro w' hw'; (try dsimp only at hw'); go_simp; first | done | rfl⟩
        case rm36 =>
        simp only [Act.put, List.setIfInBounds_toArray, List.set_cons_zero, List.set_cons_succ]
        refine anyT_put 13 79 ?rv37 #[true, true, true, true, true, true, true, true, true, true, true, true, true, true, false, false, false, false, false, false, false, false, false, false] rfl rfl rfl (by kernel_rfl) (by kernel_rfl) (by kernel_rfl) (fun _ _ _ h => h) (by decide) ?ry37 (fun _ => p2) ?rm37
        case ry37 => first | exact Or.inl ⟨by rfl, by intro w'; go_simp; first | done | rfl⟩
        case rm37 =>
        simp only [Act.put, List.setIfInBounds_toArray, List.set_cons_zero, List.set_cons_succ]
        refine anyT_put 14 80 ?rv38 #[true, true, true, true, true, true, true, true, true, true, true, true, true, true, true, false, false, false, false, false, false, false, false, false] rfl rfl rfl (by kernel_rfl) (by kernel_rfl) (by kernel_rfl) (fun _ _ _ h => h) (by decide) ?ry38 (fun _ => p2) ?rm38
        case ry38 => first | exact Or.inl ⟨by rfl, by intro w'; go_simp; first | done | rfl⟩
        case rm38 =>
        simp only [Act.put, List.setIfInBounds_toArray, List.set_cons_zero, List.set_cons_succ]
        refine anyT_put 15 81 ?rv39 #[true, true, true, true, true, true, true, true, true, true, true, true, true, true, true, true, false, false, false, false, false, false, false, false] rfl rfl rfl (by kernel_rfl) (by kernel_rfl) (by kernel_rfl) (fun _ _ _ h => h) (by decide) ?ry39 (fun _ => p2) ?rm39
        case ry39 => first | exact Or.inl ⟨by rfl, by intro w'; go_simp; first | done | rfl⟩
        case rm39 =>
        simp only [Act.put, List.setIfInBounds_toArray, List.set_cons_zero, List.set_cons_succ]
        refine anyT_put 16 82 ?rv40 #[true, true, true, true, true, true, true, true, true, true, true, true, true, true, true, true, true, false, false, false, false, false, false, false] rfl rfl rfl (by kernel_rfl) (by kernel_rfl) (by kernel_rfl) (fun _ _ _ h => h) (by decide) ?ry40 (fun _ => p2) ?rm40
        case ry40 => first | exact Or.inl ⟨by rfl, by intro w'; go_simp; first | done | rfl⟩
        case rm40 =>
        simp only [Act.put, List.setIfInBounds_toArray, List.set_cons_zero, List.set_cons_succ]
        refine anyT_put 17 83 ?rv41 #[true, true, true, true, true, true, true, true, true, true, true, true, true, true, true, true, true, true, false, false, false, false, false, false] rfl rfl rfl (by kernel_rfl) (by kernel_rfl) (by kernel_rfl) (fun _ _ _ h => h) (by decide) ?ry41 (fun _ => p2) ?rm41
        case ry41 => first | exact Or.inl ⟨by rfl, by intro w'; go_simp; first | done | rfl⟩
        case rm41 =>
        simp only [Act.put, List.setIfInBounds_toArray, List.set_cons_zero, List.set_cons_succ]
        refine anyT_put 18 84 ?rv42 #[true, true, true, true, true, true, true, true, true, true, true, true, true, true, true, true, true, true, true, false, false, false, false, false] rfl rfl rfl (by kernel_rfl) (by kernel_rfl) (by kernel_rfl) (fun _ _ _ h => h) (by decide) ?ry42 (fun _ => p2) ?rm42
        case ry42 => first | exact Or.inl ⟨by rfl, by intro w'; go_simp; first | done | rfl⟩
        case rm42 =>
        simp only [Act.put, List.setIfInBounds_toArray, List.set_cons_zero, List.set_cons_succ]
        refine anyT_put 19 85 ?rv43 #[true, true, true, true, true, true, true, true, true, true, true, true, true, true, true, true, true, true, true, true, false, false, false, false] rfl rfl rfl (by kernel_rfl) (by kernel_rfl) (by kernel_rfl) (fun _ _ _ h => h) (by decide) ?ry43 (fun _ => p2) ?rm43
        case ry43 => first | exact Or.inl ⟨by rfl, by intro w'; go_simp; first | done | rfl⟩
        case rm43 =>
        simp only [Act.put, List.setIfInBounds_toArray, List.set_cons_zero, List.set_cons_succ]
        refine anyT_put 20 86 ?rv44 #[true, true, true, true, true, true, true, true, true, true, true, true, true, true, true, true, true, true, true, true, true, false, false, false] rfl rfl rfl (by kernel_rfl) (by kernel_rfl) (by kernel_rfl) (fun _ _ _ h => h) (by decide) ?ry44 (fun _ => p2) ?rm44
        case ry44 => first | exact Or.inl ⟨by rfl, by intro w'; go_simp; first | done | rfl⟩
        case rm44 =>
        simp only [Act.put, List.setIfInBounds_toArray, List.set_cons_zero, List.set_cons_succ]
        refine anyT_put 21 87 ?rv45 #[true, true, true, true, true, true, true, true, true, true, true, true, true, true, true, true, true, true, true, true, true, true, false, false] rfl rfl rfl (by kernel_rfl) (by kernel_rfl) (by kernel_rfl) (fun _ _ _ h => h) (by decide) ?ry45 (fun _ => p2) ?rm45
        case ry45 => first | exact Or.inl ⟨by rfl, by intro w'; go_simp; first | done | rfl⟩
        case rm45 =>
        simp only [Act.put, List.setIfInBounds_toArray, List.set_cons_zero, List.set_cons_succ]
        refine anyT_one 22 #[true, true, true, true, true, true, true, true, true, true, true, true, true, true, true, true, true, true, true, true, true, true, true, false] (by kernel_rfl) rfl rfl (fun K hK => ?_)
        go_simp
        go_wp2_with fail
        refine (cmp_l AX (dc1 - K0) (rwL dz1 lo X) lo HLL.out.1 AY (dc1 - J0) (rwL dz1 lo Y) lo HLL.out.2 0 HCC.out rfl (by omega) w.heap.size wr.drew HIX.out.1 HIX.out.2).mono ?_
        rintro e v9 ⟨rfl, hB9⟩
        have HB9 : Hid (Below wr.heap.size wr v9) := (Below.refl _ wr).drew.trans hB9
        have q2 : v9.cell? ⟨w.heap.size, 2, none⟩ = some (.slice da1 D dc1) := (HB9.out.cell (p := ⟨w.heap.size, 2, none⟩) HA.out.lt).trans p2
        clear hB9
        refine hK.out _ _ (fun _ => q2) ?_
        clear hK K
        refine anyT_one 23 #[true, true, true, true, true, true, true, true, true, true, true, true, true, true, true, true, true, true, true, true, true, true, true, true] (by kernel_rfl) rfl rfl (fun K hK => ?_)
        go_simp
        refine hK.out _ _ (fun h => absurd h (by decide)) ?_
        clear hK K
        refine anyT_done (by kernel_rfl) ?_
        go_wp2_with fail
        exact ⟨⟨k + 1, by omega, .inl (by omega), by go_num, HBv.out.trans (HB9.out.mono HBv.out.size)⟩, by simp [intOf]; omega⟩
    · clear hBv
      go_wp2_with fail
      go_ret
      exact ⟨rfl, HBw.out⟩
theorem grises_walk (HU : CUp) (c1 : Bool) (sa1 : Option Addr) (sc1 : Nat) (sz1 : List Int) (da1 : Option Addr) (dc1 : Nat) (dz1 : List Int) (w : World) (w8 : IsArrD w sa1 sz1 sc1 da1 dz1 dc1) :
    Calls Try.prog 3 #[.agg #[.bool c1, .slice sa1 sz1.length sc1, .slice da1 dz1.length dc1]] w fun e w' => e = .returned (.bool true) ∧ Below w.heap.size w w' := by
  by_cases h1 : gdE c1 sz1 dz1 = 0
  · exact rises_ok HU c1 sa1 sc1 sz1 da1 dc1 dz1 w w8 h1
  · exact rises_no HU c1 sa1 sc1 sz1 da1 dc1 dz1 w w8 h1
end Go.Proofs.Yteddkfeiikdekaa
