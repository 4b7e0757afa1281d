/-
  The walk of the statement GradeTwice, given what the program tells.
-/
import Derived.Test.YteddkfeiikdekaaGrdw
import Derived.Test.YteddkfeiikdekaaSarr
namespace Go.Proofs.Yteddkfeiikdekaa
open Go.RowKit
set_option linter.unusedVariables false

set_option maxRecDepth 100000 in
set_option maxHeartbeats 8000000 in
theorem twice_no (HU : CUp) (HV : CPi) (c1 : Bool) (sa1 : Option Addr) (sc1 : Nat) (sz1 : List Int) (da1 : Option Addr) (dc1 : Nat) (dz1 : List Int) (w : World) (w8 : IsArrD w sa1 sz1 sc1 da1 dz1 dc1) (F1 : Hid (gdE c1 sz1 dz1 ≠ 0)) :
    Calls Try.prog 4 #[.agg #[.bool c1, .slice sa1 sz1.length sc1, .slice da1 dz1.length dc1]] w fun e w' => e = .returned (.bool true) ∧ Below w.heap.size w w' := by
  obtain ⟨E, hE⟩ : ∃ E, E = gdE c1 sz1 dz1 := ⟨_, rfl⟩
  have HE : Hid (gdE c1 sz1 dz1 = E ∧ E ≠ 0) := ⟨hE.symm, by rw [hE]; exact F1.out⟩
  clear hE
  obtain ⟨x11, x12, x3, x4, s64, T⟩ := w8
  have HI1 : Hid (IsC w.heap.size w sa1 sz1 sc1 ∧ IsC w.heap.size w da1 dz1 dc1 ∧ (∀ j, In64 (nth sz1 j)) ∧ ∀ j, In64 (nth dz1 j)) := ⟨x3, x4, s64, T⟩
  clear x3 x4 T s64
  have n1 := Abx.new w (.bool c1) (.slice sa1 sz1.length sc1) (.slice da1 dz1.length dc1)
  have n2 := lit_mid (w.alloc (.cells #[.bool c1, .slice sa1 sz1.length sc1, .slice da1 dz1.length dc1] 24)) 3 [2, 0, 1] 3 rfl
  simp only [World.size_alloc, List.map_cons, List.map_nil] at n2
  go_enter Try.func4, Try.ntmps4
  go_wp2_with fail
  obtain ⟨wo3, hwo3⟩ : ∃ wo3, wo3 = ((w.alloc (.cells #[.bool c1, .slice sa1 sz1.length sc1, .slice da1 dz1.length dc1] 24)).alloc (.cells #[.int .i64 2, .int .i64 0, .int .i64 1] 3)) := ⟨_, rfl⟩
  rw [← hwo3]
  have z4 : w.heap.size + 1 + 1 ≤ wo3.heap.size := by rw [hwo3]; simp only [World.size_alloc]; omega
  have B5 : Hid (Abx wo3 (w.heap.size) (.bool c1) (.slice sa1 sz1.length sc1) (.slice da1 dz1.length dc1)) := by rw [hwo3]; exact (n1.al (.cells #[.int .i64 2, .int .i64 0, .int .i64 1] 3))
  have L6 : Hid (MidC (w.heap.size + 1) (w.heap.size + 1 + 1) wo3 (some ⟨w.heap.size + 1, 0, none⟩) ([2, 0, 1]) (3)) := by rw [hwo3]; exact n2
  have hb7 : Hid (Below w.heap.size w wo3) := by rw [hwo3]; exact (((Below.refl w.heap.size w).alloc (by omega) (.cells #[.bool c1, .slice sa1 sz1.length sc1, .slice da1 dz1.length dc1] 24)).alloc (by simp only [World.size_alloc]; omega) (.cells #[.int .i64 2, .int .i64 0, .int .i64 1] 3))
  have zwo3 : w.heap.size ≤ wo3.heap.size := hb7.out.size
  clear hwo3 n1 n2
  refine (vec_c (some ⟨w.heap.size + 1, 0, none⟩) 3 [2, 0, 1] (by simp) _ (L6.out.is (by omega)).1).mono ?_
  rintro e v1 ⟨vap, vcp, gap, gcp, rfl, hVp, hGp, hB⟩
  have z8 : wo3.heap.size ≤ v1.heap.size := hB.size
  have B9 : Hid (Abx v1 (w.heap.size) (.bool c1) (.slice sa1 sz1.length sc1) (.slice da1 dz1.length dc1)) := B5.out.go hB
  have L10 : Hid (MidC (w.heap.size + 1) (w.heap.size + 1 + 1) v1 (some ⟨w.heap.size + 1, 0, none⟩) ([2, 0, 1]) (3)) := L6.out.go (by omega) hB
  have hb11 : Hid (Below w.heap.size w v1) := hb7.out.trans (hB.mono hb7.out.size)
  have L12 : Hid (MidC (wo3.heap.size) (v1.heap.size) v1 (vap) ([(3 : Int)]) (vcp)) := hVp.midc
  have L13 : Hid (MidC (wo3.heap.size) (v1.heap.size) v1 (gap) ([2, 0, 1]) (gcp)) := hGp.midc
  clear hB hb7 B5 L6 hVp hGp
  clear L10
  go_wp2_with fail
  refine (upw_ok false vap vcp [(3 : Int)] 1 rfl gap gcp [2, 0, 1] 3 rfl _ (by decide) (by decide) (L12.out.is (by omega)) (L13.out.is (by omega)) [1, 2, 0] HU (by decide)).mono ?_
  rintro e v2 ⟨g0, h0, rfl, hN0, hB⟩
  have z14 : v1.heap.size ≤ v2.heap.size := hB.size
  have B15 : Hid (Abx v2 (w.heap.size) (.bool c1) (.slice sa1 sz1.length sc1) (.slice da1 dz1.length dc1)) := B9.out.go hB
  have L16 : Hid (MidC (wo3.heap.size) (v1.heap.size) v2 (vap) ([(3 : Int)]) (vcp)) := L12.out.go (by omega) hB
  have L17 : Hid (MidC (wo3.heap.size) (v1.heap.size) v2 (gap) ([2, 0, 1]) (gcp)) := L13.out.go (by omega) hB
  have hb18 : Hid (Below w.heap.size w v2) := hb11.out.trans (hB.mono hb11.out.size)
  have L19 : Hid (MidC (v1.heap.size) (v2.heap.size) v2 (g0) ([1, 2, 0]) (h0)) := hN0.midc
  clear hB hb11 B9 L12 L13 hN0
  clear L16 L17
  have n20 := lit_mid v2 3 [1, 2, 0] 3 rfl
  simp only [List.map_cons, List.map_nil] at n20
  go_wp2_with fail
  obtain ⟨wo21, hwo21⟩ : ∃ wo21, wo21 = (v2.alloc (.cells #[.int .i64 1, .int .i64 2, .int .i64 0] 3)) := ⟨_, rfl⟩
  rw [← hwo21]
  have z22 : v2.heap.size + 1 ≤ wo21.heap.size := by rw [hwo21]; simp only [World.size_alloc]; omega
  have B23 : Hid (Abx wo21 (w.heap.size) (.bool c1) (.slice sa1 sz1.length sc1) (.slice da1 dz1.length dc1)) := by rw [hwo21]; exact (B15.out.al (.cells #[.int .i64 1, .int .i64 2, .int .i64 0] 3))
  have L24 : Hid (MidC (v1.heap.size) (v2.heap.size) wo21 (g0) ([1, 2, 0]) (h0)) := by rw [hwo21]; exact (L19.out.al (by omega) (.cells #[.int .i64 1, .int .i64 2, .int .i64 0] 3))
  have L25 : Hid (MidC (v2.heap.size) (v2.heap.size + 1) wo21 (some ⟨v2.heap.size, 0, none⟩) ([1, 2, 0]) (3)) := by rw [hwo21]; exact n20
  have hb26 : Hid (Below w.heap.size w wo21) := by rw [hwo21]; exact (hb18.out.alloc (by omega) (.cells #[.int .i64 1, .int .i64 2, .int .i64 0] 3))
  have zwo21 : w.heap.size ≤ wo21.heap.size := hb26.out.size
  clear hwo21 n20 hb18 B15 L19
  refine (ints_any g0 h0 [1, 2, 0] (some ⟨v2.heap.size, 0, none⟩) 3 [1, 2, 0] (by simp) _ _ (L24.out.is (by omega)).1 (L25.out.is (by omega)).1).mono ?_
  rintro e v3 ⟨rfl, hB⟩
  have z27 : wo21.heap.size ≤ v3.heap.size := hB.size
  have B28 : Hid (Abx v3 (w.heap.size) (.bool c1) (.slice sa1 sz1.length sc1) (.slice da1 dz1.length dc1)) := B23.out.go hB
  have L29 : Hid (MidC (v1.heap.size) (v2.heap.size) v3 (g0) ([1, 2, 0]) (h0)) := L24.out.go (by omega) hB
  have L30 : Hid (MidC (v2.heap.size) (v2.heap.size + 1) v3 (some ⟨v2.heap.size, 0, none⟩) ([1, 2, 0]) (3)) := L25.out.go (by omega) hB
  have hb31 : Hid (Below w.heap.size w v3) := hb26.out.trans (hB.mono hb26.out.size)
  clear hB hb26 B23 L24 L25
  rw [eqB_true rfl]
  clear L29 L30
  have l32 := (B28.out).c0
  have l33 := (B28.out).c1
  have l34 := (B28.out).c2
  go_wp2_with fail
  clear l32 l33 l34
  refine (upw_no c1 sa1 sc1 sz1 sz1.length rfl da1 dc1 dz1 dz1.length rfl _ x11 x12 ((HI1.out.1.below hb31.out).mono hb31.out.size) ((HI1.out.2.1.below hb31.out).mono hb31.out.size) HU E HE.out.1 HE.out.2).mono ?_
  rintro e v4 ⟨g1, h1, rfl, hN1, hB⟩
  have z35 : v3.heap.size ≤ v4.heap.size := hB.size
  have B36 : Hid (Abx v4 (w.heap.size) (.bool c1) (.slice sa1 sz1.length sc1) (.slice da1 dz1.length dc1)) := B28.out.go hB
  have hb37 : Hid (Below w.heap.size w v4) := hb31.out.trans (hB.mono hb31.out.size)
  have L38 : Hid (MidC (v3.heap.size) (v4.heap.size) v4 (g1) ([]) (h1)) := hN1.midc
  clear hB hb31 B28 hN1
  go_wp2_with fail
  go_ret
  exact ⟨rfl, hb37.out⟩
set_option maxRecDepth 100000 in
set_option maxHeartbeats 8000000 in
theorem twice_ok (HU : CUp) (HV : CPi) (c1 : Bool) (sa1 : Option Addr) (sc1 : Nat) (sz1 : List Int) (da1 : Option Addr) (dc1 : Nat) (dz1 : List Int) (w : World) (w8 : IsArrD w sa1 sz1 sc1 da1 dz1 dc1) (F1 : Hid (gdE c1 sz1 dz1 = 0)) :
    Calls Try.prog 4 #[.agg #[.bool c1, .slice sa1 sz1.length sc1, .slice da1 dz1.length dc1]] w fun e w' => e = .returned (.bool true) ∧ Below w.heap.size w w' := by
  obtain ⟨O, hO⟩ : ∃ O, O = gdO false sz1 dz1 := ⟨_, rfl⟩
  obtain ⟨T, hT⟩ : ∃ T, T = tnd O := ⟨_, rfl⟩
  have oO : IsOrd O := by rw [hO]; exact gdO_ord false sz1 dz1
  have lO : O.length ≤ 4096 := by rw [hO, gdO_length]; exact (nR_is F1.out).2
  have oT : IsOrd T := by rw [hT]; exact tnd_ord oO
  have lT : T.length = O.length := by rw [hT]; exact tnd_length
  have HO : Hid (gdE c1 sz1 dz1 = 0 ∧ gdO false sz1 dz1 = O) := ⟨F1.out, hO.symm⟩
  have HT : Hid (gdE false [(O.length : Int)] O = 0 ∧ gdO false [(O.length : Int)] O = T) := ⟨line_gd rfl lO, by rw [hT]; exact line_up oO rfl⟩
  have HJ : Hid (orE O = 0 ∧ tnd O = T) := ⟨orE_of oO lO, hT.symm⟩
  have HB : Hid (gdE false [(T.length : Int)] T = 0 ∧ gdO false [(T.length : Int)] T = O) := ⟨line_gd rfl (by omega), by rw [line_up oT rfl, hT]; exact tnd_tnd oO⟩
  have H64 : Hid (∀ j, In64 (nth O j)) := ord_64 oO lO
  have lT4 : T.length ≤ 4096 := by omega
  clear hO hT oO oT lT
  obtain ⟨x11, x12, x3, x4, s64, T⟩ := w8
  have HI1 : Hid (IsC w.heap.size w sa1 sz1 sc1 ∧ IsC w.heap.size w da1 dz1 dc1 ∧ (∀ j, In64 (nth sz1 j)) ∧ ∀ j, In64 (nth dz1 j)) := ⟨x3, x4, s64, T⟩
  clear x3 x4 T s64
  have n1 := Abx.new w (.bool c1) (.slice sa1 sz1.length sc1) (.slice da1 dz1.length dc1)
  have n2 := lit_mid (w.alloc (.cells #[.bool c1, .slice sa1 sz1.length sc1, .slice da1 dz1.length dc1] 24)) 3 [2, 0, 1] 3 rfl
  simp only [World.size_alloc, List.map_cons, List.map_nil] at n2
  go_enter Try.func4, Try.ntmps4
  go_wp2_with fail
  obtain ⟨wo3, hwo3⟩ : ∃ wo3, wo3 = ((w.alloc (.cells #[.bool c1, .slice sa1 sz1.length sc1, .slice da1 dz1.length dc1] 24)).alloc (.cells #[.int .i64 2, .int .i64 0, .int .i64 1] 3)) := ⟨_, rfl⟩
  rw [← hwo3]
  have z4 : w.heap.size + 1 + 1 ≤ wo3.heap.size := by rw [hwo3]; simp only [World.size_alloc]; omega
  have B5 : Hid (Abx wo3 (w.heap.size) (.bool c1) (.slice sa1 sz1.length sc1) (.slice da1 dz1.length dc1)) := by rw [hwo3]; exact (n1.al (.cells #[.int .i64 2, .int .i64 0, .int .i64 1] 3))
  have L6 : Hid (MidC (w.heap.size + 1) (w.heap.size + 1 + 1) wo3 (some ⟨w.heap.size + 1, 0, none⟩) ([2, 0, 1]) (3)) := by rw [hwo3]; exact n2
  have hb7 : Hid (Below w.heap.size w wo3) := by rw [hwo3]; exact (((Below.refl w.heap.size w).alloc (by omega) (.cells #[.bool c1, .slice sa1 sz1.length sc1, .slice da1 dz1.length dc1] 24)).alloc (by simp only [World.size_alloc]; omega) (.cells #[.int .i64 2, .int .i64 0, .int .i64 1] 3))
  have zwo3 : w.heap.size ≤ wo3.heap.size := hb7.out.size
  clear hwo3 n1 n2
  refine (vec_c (some ⟨w.heap.size + 1, 0, none⟩) 3 [2, 0, 1] (by simp) _ (L6.out.is (by omega)).1).mono ?_
  rintro e v1 ⟨vap, vcp, gap, gcp, rfl, hVp, hGp, hB⟩
  have z8 : wo3.heap.size ≤ v1.heap.size := hB.size
  have B9 : Hid (Abx v1 (w.heap.size) (.bool c1) (.slice sa1 sz1.length sc1) (.slice da1 dz1.length dc1)) := B5.out.go hB
  have L10 : Hid (MidC (w.heap.size + 1) (w.heap.size + 1 + 1) v1 (some ⟨w.heap.size + 1, 0, none⟩) ([2, 0, 1]) (3)) := L6.out.go (by omega) hB
  have hb11 : Hid (Below w.heap.size w v1) := hb7.out.trans (hB.mono hb7.out.size)
  have L12 : Hid (MidC (wo3.heap.size) (v1.heap.size) v1 (vap) ([(3 : Int)]) (vcp)) := hVp.midc
  have L13 : Hid (MidC (wo3.heap.size) (v1.heap.size) v1 (gap) ([2, 0, 1]) (gcp)) := hGp.midc
  clear hB hb7 B5 L6 hVp hGp
  clear L10
  go_wp2_with fail
  refine (upw_ok false vap vcp [(3 : Int)] 1 rfl gap gcp [2, 0, 1] 3 rfl _ (by decide) (by decide) (L12.out.is (by omega)) (L13.out.is (by omega)) [1, 2, 0] HU (by decide)).mono ?_
  rintro e v2 ⟨g0, h0, rfl, hN0, hB⟩
  have z14 : v1.heap.size ≤ v2.heap.size := hB.size
  have B15 : Hid (Abx v2 (w.heap.size) (.bool c1) (.slice sa1 sz1.length sc1) (.slice da1 dz1.length dc1)) := B9.out.go hB
  have L16 : Hid (MidC (wo3.heap.size) (v1.heap.size) v2 (vap) ([(3 : Int)]) (vcp)) := L12.out.go (by omega) hB
  have L17 : Hid (MidC (wo3.heap.size) (v1.heap.size) v2 (gap) ([2, 0, 1]) (gcp)) := L13.out.go (by omega) hB
  have hb18 : Hid (Below w.heap.size w v2) := hb11.out.trans (hB.mono hb11.out.size)
  have L19 : Hid (MidC (v1.heap.size) (v2.heap.size) v2 (g0) ([1, 2, 0]) (h0)) := hN0.midc
  clear hB hb11 B9 L12 L13 hN0
  clear L16 L17
  have n20 := lit_mid v2 3 [1, 2, 0] 3 rfl
  simp only [List.map_cons, List.map_nil] at n20
  go_wp2_with fail
  obtain ⟨wo21, hwo21⟩ : ∃ wo21, wo21 = (v2.alloc (.cells #[.int .i64 1, .int .i64 2, .int .i64 0] 3)) := ⟨_, rfl⟩
  rw [← hwo21]
  have z22 : v2.heap.size + 1 ≤ wo21.heap.size := by rw [hwo21]; simp only [World.size_alloc]; omega
  have B23 : Hid (Abx wo21 (w.heap.size) (.bool c1) (.slice sa1 sz1.length sc1) (.slice da1 dz1.length dc1)) := by rw [hwo21]; exact (B15.out.al (.cells #[.int .i64 1, .int .i64 2, .int .i64 0] 3))
  have L24 : Hid (MidC (v1.heap.size) (v2.heap.size) wo21 (g0) ([1, 2, 0]) (h0)) := by rw [hwo21]; exact (L19.out.al (by omega) (.cells #[.int .i64 1, .int .i64 2, .int .i64 0] 3))
  have L25 : Hid (MidC (v2.heap.size) (v2.heap.size + 1) wo21 (some ⟨v2.heap.size, 0, none⟩) ([1, 2, 0]) (3)) := by rw [hwo21]; exact n20
  have hb26 : Hid (Below w.heap.size w wo21) := by rw [hwo21]; exact (hb18.out.alloc (by omega) (.cells #[.int .i64 1, .int .i64 2, .int .i64 0] 3))
  have zwo21 : w.heap.size ≤ wo21.heap.size := hb26.out.size
  clear hwo21 n20 hb18 B15 L19
  refine (ints_any g0 h0 [1, 2, 0] (some ⟨v2.heap.size, 0, none⟩) 3 [1, 2, 0] (by simp) _ _ (L24.out.is (by omega)).1 (L25.out.is (by omega)).1).mono ?_
  rintro e v3 ⟨rfl, hB⟩
  have z27 : wo21.heap.size ≤ v3.heap.size := hB.size
  have B28 : Hid (Abx v3 (w.heap.size) (.bool c1) (.slice sa1 sz1.length sc1) (.slice da1 dz1.length dc1)) := B23.out.go hB
  have L29 : Hid (MidC (v1.heap.size) (v2.heap.size) v3 (g0) ([1, 2, 0]) (h0)) := L24.out.go (by omega) hB
  have L30 : Hid (MidC (v2.heap.size) (v2.heap.size + 1) v3 (some ⟨v2.heap.size, 0, none⟩) ([1, 2, 0]) (3)) := L25.out.go (by omega) hB
  have hb31 : Hid (Below w.heap.size w v3) := hb26.out.trans (hB.mono hb26.out.size)
  clear hB hb26 B23 L24 L25
  rw [eqB_true rfl]
  clear L29 L30
  have l32 := (B28.out).c0
  have l33 := (B28.out).c1
  have l34 := (B28.out).c2
  go_wp2_with fail
  clear l32 l33 l34
  refine (upw_ok c1 sa1 sc1 sz1 sz1.length rfl da1 dc1 dz1 dz1.length rfl _ x11 x12 ((HI1.out.1.below hb31.out).mono hb31.out.size) ((HI1.out.2.1.below hb31.out).mono hb31.out.size) O HU HO.out).mono ?_
  rintro e v4 ⟨g1, h1, rfl, hN1, hB⟩
  have z35 : v3.heap.size ≤ v4.heap.size := hB.size
  have B36 : Hid (Abx v4 (w.heap.size) (.bool c1) (.slice sa1 sz1.length sc1) (.slice da1 dz1.length dc1)) := B28.out.go hB
  have hb37 : Hid (Below w.heap.size w v4) := hb31.out.trans (hB.mono hb31.out.size)
  have L38 : Hid (MidC (v3.heap.size) (v4.heap.size) v4 (g1) (O) (h1)) := hN1.midc
  clear hB hb31 B28 hN1
  go_wp2_with fail
  refine (vecr_c false g1 h1 O O.length rfl (by omega) _ (L38.out.is (by omega)).1).mono ?_
  rintro e v5 ⟨vas, vcs, gas, gcs, rfl, hVs, hGs, hB⟩
  have z39 : v4.heap.size ≤ v5.heap.size := hB.size
  have B40 : Hid (Abx v5 (w.heap.size) (.bool c1) (.slice sa1 sz1.length sc1) (.slice da1 dz1.length dc1)) := B36.out.go hB
  have L41 : Hid (MidC (v3.heap.size) (v4.heap.size) v5 (g1) (O) (h1)) := L38.out.go (by omega) hB
  have hb42 : Hid (Below w.heap.size w v5) := hb37.out.trans (hB.mono hb37.out.size)
  have L43 : Hid (MidC (v4.heap.size) (v5.heap.size) v5 (vas) ([(O.length : Int)]) (vcs)) := hVs.midc
  have L44 : Hid (MidC (v4.heap.size) (v5.heap.size) v5 (gas) (O) (gcs)) := hGs.midc
  clear hB hb37 B36 L38 hVs hGs
  go_wp2_with fail
  refine (upw_ok false vas vcs [(O.length : Int)] 1 rfl gas gcs O O.length rfl _ (by decide) (by omega) (L43.out.is (by omega)) (L44.out.is (by omega)) T HU HT.out).mono ?_
  rintro e v6 ⟨g2, h2, rfl, hN2, hB⟩
  have z45 : v5.heap.size ≤ v6.heap.size := hB.size
  have B46 : Hid (Abx v6 (w.heap.size) (.bool c1) (.slice sa1 sz1.length sc1) (.slice da1 dz1.length dc1)) := B40.out.go hB
  have L47 : Hid (MidC (v3.heap.size) (v4.heap.size) v6 (g1) (O) (h1)) := L41.out.go (by omega) hB
  have L48 : Hid (MidC (v4.heap.size) (v5.heap.size) v6 (vas) ([(O.length : Int)]) (vcs)) := L43.out.go (by omega) hB
  have L49 : Hid (MidC (v4.heap.size) (v5.heap.size) v6 (gas) (O) (gcs)) := L44.out.go (by omega) hB
  have hb50 : Hid (Below w.heap.size w v6) := hb42.out.trans (hB.mono hb42.out.size)
  have L51 : Hid (MidC (v5.heap.size) (v6.heap.size) v6 (g2) (T) (h2)) := hN2.midc
  clear hB hb42 B40 L41 L43 L44 hN2
  clear L48 L49
  go_wp2_with fail
  refine (iv_ok g1 h1 O O.length rfl _ (by omega) (L47.out.is (by omega)).1 H64.out T HV HJ.out).mono ?_
  rintro e v7 ⟨g3, h3, rfl, hN3, hB⟩
  have z52 : v6.heap.size ≤ v7.heap.size := hB.size
  have B53 : Hid (Abx v7 (w.heap.size) (.bool c1) (.slice sa1 sz1.length sc1) (.slice da1 dz1.length dc1)) := B46.out.go hB
  have L54 : Hid (MidC (v3.heap.size) (v4.heap.size) v7 (g1) (O) (h1)) := L47.out.go (by omega) hB
  have L55 : Hid (MidC (v5.heap.size) (v6.heap.size) v7 (g2) (T) (h2)) := L51.out.go (by omega) hB
  have hb56 : Hid (Below w.heap.size w v7) := hb50.out.trans (hB.mono hb50.out.size)
  have L57 : Hid (MidC (v6.heap.size) (v7.heap.size) v7 (g3) (T) (h3)) := hN3.midc
  clear hB hb50 B46 L47 L51 hN3
  go_wp2_with fail
  refine (list_eq g2 h2 T T.length rfl g3 h3 T.length rfl _ (by omega) (L55.out.is (by omega)).1 (L57.out.is (by omega)).1).mono ?_
  rintro e v8 ⟨rfl, hB⟩
  have z58 : v7.heap.size ≤ v8.heap.size := hB.size
  have B59 : Hid (Abx v8 (w.heap.size) (.bool c1) (.slice sa1 sz1.length sc1) (.slice da1 dz1.length dc1)) := B53.out.go hB
  have L60 : Hid (MidC (v3.heap.size) (v4.heap.size) v8 (g1) (O) (h1)) := L54.out.go (by omega) hB
  have L61 : Hid (MidC (v5.heap.size) (v6.heap.size) v8 (g2) (T) (h2)) := L55.out.go (by omega) hB
  have L62 : Hid (MidC (v6.heap.size) (v7.heap.size) v8 (g3) (T) (h3)) := L57.out.go (by omega) hB
  have hb63 : Hid (Below w.heap.size w v8) := hb56.out.trans (hB.mono hb56.out.size)
  clear hB hb56 B53 L54 L55 L57
  clear L62
  go_wp2_with fail
  refine (vecr_c false g2 h2 T T.length rfl (by omega) _ (L61.out.is (by omega)).1).mono ?_
  rintro e v9 ⟨vat, vct, gat, gct, rfl, hVt, hGt, hB⟩
  have z64 : v8.heap.size ≤ v9.heap.size := hB.size
  have B65 : Hid (Abx v9 (w.heap.size) (.bool c1) (.slice sa1 sz1.length sc1) (.slice da1 dz1.length dc1)) := B59.out.go hB
  have L66 : Hid (MidC (v3.heap.size) (v4.heap.size) v9 (g1) (O) (h1)) := L60.out.go (by omega) hB
  have L67 : Hid (MidC (v5.heap.size) (v6.heap.size) v9 (g2) (T) (h2)) := L61.out.go (by omega) hB
  have hb68 : Hid (Below w.heap.size w v9) := hb63.out.trans (hB.mono hb63.out.size)
  have L69 : Hid (MidC (v8.heap.size) (v9.heap.size) v9 (vat) ([(T.length : Int)]) (vct)) := hVt.midc
  have L70 : Hid (MidC (v8.heap.size) (v9.heap.size) v9 (gat) (T) (gct)) := hGt.midc
  clear hB hb63 B59 L60 L61 hVt hGt
  go_wp2_with fail
  refine (upw_ok false vat vct [(T.length : Int)] 1 rfl gat gct T T.length rfl _ (by decide) (by omega) (L69.out.is (by omega)) (L70.out.is (by omega)) O HU HB.out).mono ?_
  rintro e v10 ⟨g4, h4, rfl, hN4, hB⟩
  have z71 : v9.heap.size ≤ v10.heap.size := hB.size
  have B72 : Hid (Abx v10 (w.heap.size) (.bool c1) (.slice sa1 sz1.length sc1) (.slice da1 dz1.length dc1)) := B65.out.go hB
  have L73 : Hid (MidC (v3.heap.size) (v4.heap.size) v10 (g1) (O) (h1)) := L66.out.go (by omega) hB
  have L74 : Hid (MidC (v5.heap.size) (v6.heap.size) v10 (g2) (T) (h2)) := L67.out.go (by omega) hB
  have L75 : Hid (MidC (v8.heap.size) (v9.heap.size) v10 (vat) ([(T.length : Int)]) (vct)) := L69.out.go (by omega) hB
  have L76 : Hid (MidC (v8.heap.size) (v9.heap.size) v10 (gat) (T) (gct)) := L70.out.go (by omega) hB
  have hb77 : Hid (Below w.heap.size w v10) := hb68.out.trans (hB.mono hb68.out.size)
  have L78 : Hid (MidC (v9.heap.size) (v10.heap.size) v10 (g4) (O) (h4)) := hN4.midc
  clear hB hb68 B65 L66 L67 L69 L70 hN4
  clear L75 L76
  go_wp2_with fail
  refine (list_eq g4 h4 O O.length rfl g1 h1 O.length rfl _ (by omega) (L78.out.is (by omega)).1 (L73.out.is (by omega)).1).mono ?_
  rintro e v11 ⟨rfl, hB⟩
  have z79 : v10.heap.size ≤ v11.heap.size := hB.size
  have B80 : Hid (Abx v11 (w.heap.size) (.bool c1) (.slice sa1 sz1.length sc1) (.slice da1 dz1.length dc1)) := B72.out.go hB
  have L81 : Hid (MidC (v3.heap.size) (v4.heap.size) v11 (g1) (O) (h1)) := L73.out.go (by omega) hB
  have L82 : Hid (MidC (v5.heap.size) (v6.heap.size) v11 (g2) (T) (h2)) := L74.out.go (by omega) hB
  have L83 : Hid (MidC (v9.heap.size) (v10.heap.size) v11 (g4) (O) (h4)) := L78.out.go (by omega) hB
  have hb84 : Hid (Below w.heap.size w v11) := hb77.out.trans (hB.mono hb77.out.size)
  clear hB hb77 B72 L73 L74 L78
  go_wp2_with fail
  go_ret
  exact ⟨rfl, hb84.out⟩
theorem gtwice_walk (HU : CUp) (HV : CPi) (c1 : Bool) (sa1 : Option Addr) (sc1 : Nat) (sz1 : List Int) (da1 : Option Addr) (dc1 : Nat) (dz1 : List Int) (w : World) (w8 : IsArrD w sa1 sz1 sc1 da1 dz1 dc1) :
    Calls Try.prog 4 #[.agg #[.bool c1, .slice sa1 sz1.length sc1, .slice da1 dz1.length dc1]] w fun e w' => e = .returned (.bool true) ∧ Below w.heap.size w w' := by
  by_cases h1 : gdE c1 sz1 dz1 = 0
  · exact twice_ok HU HV c1 sa1 sc1 sz1 da1 dc1 dz1 w w8 h1
  · exact twice_no HU HV c1 sa1 sc1 sz1 da1 dc1 dz1 w w8 h1
end Go.Proofs.Yteddkfeiikdekaa
