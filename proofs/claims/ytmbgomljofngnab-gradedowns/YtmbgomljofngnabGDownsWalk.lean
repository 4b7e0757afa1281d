/-
  The walk of the statement GradeDowns, given what the program tells.
-/
import Derived.Test.YtmbgomljofngnabGrdx
import Derived.Test.YtmbgomljofngnabSarr
namespace Go.Proofs.Ytmbgomljofngnab
open Go.RowKit
set_option linter.unusedVariables false

set_option maxRecDepth 100000 in
set_option maxHeartbeats 8000000 in
theorem downs_no (HD : CDn) (HU : CUp) (H2 : C2d) (c1 : Bool) (sa1 : Option Addr) (sc1 : Nat) (sz1 : List Int) (da1 : Option Addr) (dc1 : Nat) (dz1 : List Int) (w : World) (w8 : IsArrD w sa1 sz1 sc1 da1 dz1 dc1) (F1 : Hid (gdE c1 sz1 dz1 ≠ 0)) :
    Calls Try.prog 4 #[.agg #[.bool c1, .slice sa1 sz1.length sc1, .slice da1 dz1.length dc1]] w fun e w' => e = .returned (.bool true) ∧ Below w.heap.size w w' := by
  obtain ⟨E, hE⟩ : ∃ E, E = gdE c1 sz1 dz1 := ⟨_, rfl⟩
  have HE : Hid (gdE c1 sz1 dz1 = E ∧ E ≠ 0) := ⟨hE.symm, by rw [hE]; exact F1.out⟩
  clear hE
  obtain ⟨x11, x12, x3, x4, s64, T⟩ := w8
  have HI1 : Hid (IsC w.heap.size w sa1 sz1 sc1 ∧ IsC w.heap.size w da1 dz1 dc1 ∧ (∀ j, In64 (nth sz1 j)) ∧ ∀ j, In64 (nth dz1 j)) := ⟨x3, x4, s64, T⟩
  clear x3 x4 T s64
  have n1 := Abx.new w (.bool c1) (.slice sa1 sz1.length sc1) (.slice da1 dz1.length dc1)
  have n2 := lit_mid (w.alloc (.cells #[.bool c1, .slice sa1 sz1.length sc1, .slice da1 dz1.length dc1] 24)) 3 [5, 3, 5] 3 rfl
  simp only [World.size_alloc, List.map_cons, List.map_nil] at n2
  go_enter Try.func4, Try.ntmps4
  go_wp2_with fail
  obtain ⟨wo3, hwo3⟩ : ∃ wo3, wo3 = ((w.alloc (.cells #[.bool c1, .slice sa1 sz1.length sc1, .slice da1 dz1.length dc1] 24)).alloc (.cells #[.int .i64 5, .int .i64 3, .int .i64 5] 3)) := ⟨_, rfl⟩
  rw [← hwo3]
  have z4 : w.heap.size + 1 + 1 ≤ wo3.heap.size := by rw [hwo3]; simp only [World.size_alloc]; omega
  have B5 : Hid (Abx wo3 (w.heap.size) (.bool c1) (.slice sa1 sz1.length sc1) (.slice da1 dz1.length dc1)) := by rw [hwo3]; exact (n1.al (.cells #[.int .i64 5, .int .i64 3, .int .i64 5] 3))
  have L6 : Hid (MidC (w.heap.size + 1) (w.heap.size + 1 + 1) wo3 (some ⟨w.heap.size + 1, 0, none⟩) ([5, 3, 5]) (3)) := by rw [hwo3]; exact n2
  have hb7 : Hid (Below w.heap.size w wo3) := by rw [hwo3]; exact (((Below.refl w.heap.size w).alloc (by omega) (.cells #[.bool c1, .slice sa1 sz1.length sc1, .slice da1 dz1.length dc1] 24)).alloc (by simp only [World.size_alloc]; omega) (.cells #[.int .i64 5, .int .i64 3, .int .i64 5] 3))
  have zwo3 : w.heap.size ≤ wo3.heap.size := hb7.out.size
  clear hwo3 n1 n2
  refine (vec_c (some ⟨w.heap.size + 1, 0, none⟩) 3 [5, 3, 5] (by simp) _ (L6.out.is (by omega)).1).mono ?_
  rintro e v1 ⟨vap, vcp, gap, gcp, rfl, hVp, hGp, hB⟩
  have z8 : wo3.heap.size ≤ v1.heap.size := hB.size
  have B9 : Hid (Abx v1 (w.heap.size) (.bool c1) (.slice sa1 sz1.length sc1) (.slice da1 dz1.length dc1)) := B5.out.go hB
  have L10 : Hid (MidC (w.heap.size + 1) (w.heap.size + 1 + 1) v1 (some ⟨w.heap.size + 1, 0, none⟩) ([5, 3, 5]) (3)) := L6.out.go (by omega) hB
  have hb11 : Hid (Below w.heap.size w v1) := hb7.out.trans (hB.mono hb7.out.size)
  have L12 : Hid (MidC (wo3.heap.size) (v1.heap.size) v1 (vap) ([(3 : Int)]) (vcp)) := hVp.midc
  have L13 : Hid (MidC (wo3.heap.size) (v1.heap.size) v1 (gap) ([5, 3, 5]) (gcp)) := hGp.midc
  clear hB hb7 B5 L6 hVp hGp
  clear L10
  go_wp2_with fail
  refine (dnw_ok false vap vcp [(3 : Int)] 1 rfl gap gcp [5, 3, 5] 3 rfl _ (by decide) (by decide) (L12.out.is (by omega)) (L13.out.is (by omega)) [0, 2, 1] HD (by decide)).mono ?_
  rintro e v2 ⟨g0, h0, rfl, hN0, hB⟩
  have z14 : v1.heap.size ≤ v2.heap.size := hB.size
  have B15 : Hid (Abx v2 (w.heap.size) (.bool c1) (.slice sa1 sz1.length sc1) (.slice da1 dz1.length dc1)) := B9.out.go hB
  have L16 : Hid (MidC (wo3.heap.size) (v1.heap.size) v2 (vap) ([(3 : Int)]) (vcp)) := L12.out.go (by omega) hB
  have L17 : Hid (MidC (wo3.heap.size) (v1.heap.size) v2 (gap) ([5, 3, 5]) (gcp)) := L13.out.go (by omega) hB
  have hb18 : Hid (Below w.heap.size w v2) := hb11.out.trans (hB.mono hb11.out.size)
  have L19 : Hid (MidC (v1.heap.size) (v2.heap.size) v2 (g0) ([0, 2, 1]) (h0)) := hN0.midc
  clear hB hb11 B9 L12 L13 hN0
  clear L16 L17
  have n20 := lit_mid v2 3 [0, 2, 1] 3 rfl
  simp only [List.map_cons, List.map_nil] at n20
  go_wp2_with fail
  obtain ⟨wo21, hwo21⟩ : ∃ wo21, wo21 = (v2.alloc (.cells #[.int .i64 0, .int .i64 2, .int .i64 1] 3)) := ⟨_, rfl⟩
  rw [← hwo21]
  have z22 : v2.heap.size + 1 ≤ wo21.heap.size := by rw [hwo21]; simp only [World.size_alloc]; omega
  have B23 : Hid (Abx wo21 (w.heap.size) (.bool c1) (.slice sa1 sz1.length sc1) (.slice da1 dz1.length dc1)) := by rw [hwo21]; exact (B15.out.al (.cells #[.int .i64 0, .int .i64 2, .int .i64 1] 3))
  have L24 : Hid (MidC (v1.heap.size) (v2.heap.size) wo21 (g0) ([0, 2, 1]) (h0)) := by rw [hwo21]; exact (L19.out.al (by omega) (.cells #[.int .i64 0, .int .i64 2, .int .i64 1] 3))
  have L25 : Hid (MidC (v2.heap.size) (v2.heap.size + 1) wo21 (some ⟨v2.heap.size, 0, none⟩) ([0, 2, 1]) (3)) := by rw [hwo21]; exact n20
  have hb26 : Hid (Below w.heap.size w wo21) := by rw [hwo21]; exact (hb18.out.alloc (by omega) (.cells #[.int .i64 0, .int .i64 2, .int .i64 1] 3))
  have zwo21 : w.heap.size ≤ wo21.heap.size := hb26.out.size
  clear hwo21 n20 hb18 B15 L19
  refine (ints_any g0 h0 [0, 2, 1] (some ⟨v2.heap.size, 0, none⟩) 3 [0, 2, 1] (by simp) _ _ (L24.out.is (by omega)).1 (L25.out.is (by omega)).1).mono ?_
  rintro e v3 ⟨rfl, hB⟩
  have z27 : wo21.heap.size ≤ v3.heap.size := hB.size
  have B28 : Hid (Abx v3 (w.heap.size) (.bool c1) (.slice sa1 sz1.length sc1) (.slice da1 dz1.length dc1)) := B23.out.go hB
  have L29 : Hid (MidC (v1.heap.size) (v2.heap.size) v3 (g0) ([0, 2, 1]) (h0)) := L24.out.go (by omega) hB
  have L30 : Hid (MidC (v2.heap.size) (v2.heap.size + 1) v3 (some ⟨v2.heap.size, 0, none⟩) ([0, 2, 1]) (3)) := L25.out.go (by omega) hB
  have hb31 : Hid (Below w.heap.size w v3) := hb26.out.trans (hB.mono hb26.out.size)
  clear hB hb26 B23 L24 L25
  rw [eqB_true rfl]
  clear L29 L30
  have l32 := (B28.out).c0
  have l33 := (B28.out).c1
  have l34 := (B28.out).c2
  go_wp2_with fail
  clear l32 l33 l34
  refine (dnw_no c1 sa1 sc1 sz1 sz1.length rfl da1 dc1 dz1 dz1.length rfl _ x11 x12 ((HI1.out.1.below hb31.out).mono hb31.out.size) ((HI1.out.2.1.below hb31.out).mono hb31.out.size) HD E HE.out.1 HE.out.2).mono ?_
  rintro e v4 ⟨g1, h1, rfl, hN1, hB⟩
  have z35 : v3.heap.size ≤ v4.heap.size := hB.size
  have B36 : Hid (Abx v4 (w.heap.size) (.bool c1) (.slice sa1 sz1.length sc1) (.slice da1 dz1.length dc1)) := B28.out.go hB
  have hb37 : Hid (Below w.heap.size w v4) := hb31.out.trans (hB.mono hb31.out.size)
  have L38 : Hid (MidC (v3.heap.size) (v4.heap.size) v4 (g1) ([]) (h1)) := hN1.midc
  clear hB hb31 B28 hN1
  go_wp2_with fail
  go_ret
  exact ⟨rfl, hb37.out⟩
set_option maxRecDepth 100000 in
set_option maxHeartbeats 8000000 in
theorem downs_ch (HD : CDn) (HU : CUp) (H2 : C2d) (c1 : Bool) (sa1 : Option Addr) (sc1 : Nat) (sz1 : List Int) (da1 : Option Addr) (dc1 : Nat) (dz1 : List Int) (w : World) (w8 : IsArrD w sa1 sz1 sc1 da1 dz1 dc1) (F1 : Hid (gdE c1 sz1 dz1 = 0)) (hc : c1 = true) :
    Calls Try.prog 4 #[.agg #[.bool c1, .slice sa1 sz1.length sc1, .slice da1 dz1.length dc1]] w fun e w' => e = .returned (.bool true) ∧ Below w.heap.size w w' := by
  subst hc
  obtain ⟨O, hO⟩ : ∃ O, O = gdO true sz1 dz1 := ⟨_, rfl⟩
  have lO : O.length ≤ 4096 := by rw [hO, gdO_length]; exact (nR_is F1.out).2
  have HO : Hid (gdE true sz1 dz1 = 0 ∧ gdO true sz1 dz1 = O) := ⟨F1.out, hO.symm⟩
  clear hO
  obtain ⟨x11, x12, x3, x4, s64, T⟩ := w8
  have HI1 : Hid (IsC w.heap.size w sa1 sz1 sc1 ∧ IsC w.heap.size w da1 dz1 dc1 ∧ (∀ j, In64 (nth sz1 j)) ∧ ∀ j, In64 (nth dz1 j)) := ⟨x3, x4, s64, T⟩
  clear x3 x4 T s64
  have n1 := Abx.new w (.bool true) (.slice sa1 sz1.length sc1) (.slice da1 dz1.length dc1)
  have n2 := lit_mid (w.alloc (.cells #[.bool true, .slice sa1 sz1.length sc1, .slice da1 dz1.length dc1] 24)) 3 [5, 3, 5] 3 rfl
  simp only [World.size_alloc, List.map_cons, List.map_nil] at n2
  go_enter Try.func4, Try.ntmps4
  go_wp2_with fail
  obtain ⟨wo3, hwo3⟩ : ∃ wo3, wo3 = ((w.alloc (.cells #[.bool true, .slice sa1 sz1.length sc1, .slice da1 dz1.length dc1] 24)).alloc (.cells #[.int .i64 5, .int .i64 3, .int .i64 5] 3)) := ⟨_, rfl⟩
  rw [← hwo3]
  have z4 : w.heap.size + 1 + 1 ≤ wo3.heap.size := by rw [hwo3]; simp only [World.size_alloc]; omega
  have B5 : Hid (Abx wo3 (w.heap.size) (.bool true) (.slice sa1 sz1.length sc1) (.slice da1 dz1.length dc1)) := by rw [hwo3]; exact (n1.al (.cells #[.int .i64 5, .int .i64 3, .int .i64 5] 3))
  have L6 : Hid (MidC (w.heap.size + 1) (w.heap.size + 1 + 1) wo3 (some ⟨w.heap.size + 1, 0, none⟩) ([5, 3, 5]) (3)) := by rw [hwo3]; exact n2
  have hb7 : Hid (Below w.heap.size w wo3) := by rw [hwo3]; exact (((Below.refl w.heap.size w).alloc (by omega) (.cells #[.bool true, .slice sa1 sz1.length sc1, .slice da1 dz1.length dc1] 24)).alloc (by simp only [World.size_alloc]; omega) (.cells #[.int .i64 5, .int .i64 3, .int .i64 5] 3))
  have zwo3 : w.heap.size ≤ wo3.heap.size := hb7.out.size
  clear hwo3 n1 n2
  refine (vec_c (some ⟨w.heap.size + 1, 0, none⟩) 3 [5, 3, 5] (by simp) _ (L6.out.is (by omega)).1).mono ?_
  rintro e v1 ⟨vap, vcp, gap, gcp, rfl, hVp, hGp, hB⟩
  have z8 : wo3.heap.size ≤ v1.heap.size := hB.size
  have B9 : Hid (Abx v1 (w.heap.size) (.bool true) (.slice sa1 sz1.length sc1) (.slice da1 dz1.length dc1)) := B5.out.go hB
  have L10 : Hid (MidC (w.heap.size + 1) (w.heap.size + 1 + 1) v1 (some ⟨w.heap.size + 1, 0, none⟩) ([5, 3, 5]) (3)) := L6.out.go (by omega) hB
  have hb11 : Hid (Below w.heap.size w v1) := hb7.out.trans (hB.mono hb7.out.size)
  have L12 : Hid (MidC (wo3.heap.size) (v1.heap.size) v1 (vap) ([(3 : Int)]) (vcp)) := hVp.midc
  have L13 : Hid (MidC (wo3.heap.size) (v1.heap.size) v1 (gap) ([5, 3, 5]) (gcp)) := hGp.midc
  clear hB hb7 B5 L6 hVp hGp
  clear L10
  go_wp2_with fail
  refine (dnw_ok false vap vcp [(3 : Int)] 1 rfl gap gcp [5, 3, 5] 3 rfl _ (by decide) (by decide) (L12.out.is (by omega)) (L13.out.is (by omega)) [0, 2, 1] HD (by decide)).mono ?_
  rintro e v2 ⟨g0, h0, rfl, hN0, hB⟩
  have z14 : v1.heap.size ≤ v2.heap.size := hB.size
  have B15 : Hid (Abx v2 (w.heap.size) (.bool true) (.slice sa1 sz1.length sc1) (.slice da1 dz1.length dc1)) := B9.out.go hB
  have L16 : Hid (MidC (wo3.heap.size) (v1.heap.size) v2 (vap) ([(3 : Int)]) (vcp)) := L12.out.go (by omega) hB
  have L17 : Hid (MidC (wo3.heap.size) (v1.heap.size) v2 (gap) ([5, 3, 5]) (gcp)) := L13.out.go (by omega) hB
  have hb18 : Hid (Below w.heap.size w v2) := hb11.out.trans (hB.mono hb11.out.size)
  have L19 : Hid (MidC (v1.heap.size) (v2.heap.size) v2 (g0) ([0, 2, 1]) (h0)) := hN0.midc
  clear hB hb11 B9 L12 L13 hN0
  clear L16 L17
  have n20 := lit_mid v2 3 [0, 2, 1] 3 rfl
  simp only [List.map_cons, List.map_nil] at n20
  go_wp2_with fail
  obtain ⟨wo21, hwo21⟩ : ∃ wo21, wo21 = (v2.alloc (.cells #[.int .i64 0, .int .i64 2, .int .i64 1] 3)) := ⟨_, rfl⟩
  rw [← hwo21]
  have z22 : v2.heap.size + 1 ≤ wo21.heap.size := by rw [hwo21]; simp only [World.size_alloc]; omega
  have B23 : Hid (Abx wo21 (w.heap.size) (.bool true) (.slice sa1 sz1.length sc1) (.slice da1 dz1.length dc1)) := by rw [hwo21]; exact (B15.out.al (.cells #[.int .i64 0, .int .i64 2, .int .i64 1] 3))
  have L24 : Hid (MidC (v1.heap.size) (v2.heap.size) wo21 (g0) ([0, 2, 1]) (h0)) := by rw [hwo21]; exact (L19.out.al (by omega) (.cells #[.int .i64 0, .int .i64 2, .int .i64 1] 3))
  have L25 : Hid (MidC (v2.heap.size) (v2.heap.size + 1) wo21 (some ⟨v2.heap.size, 0, none⟩) ([0, 2, 1]) (3)) := by rw [hwo21]; exact n20
  have hb26 : Hid (Below w.heap.size w wo21) := by rw [hwo21]; exact (hb18.out.alloc (by omega) (.cells #[.int .i64 0, .int .i64 2, .int .i64 1] 3))
  have zwo21 : w.heap.size ≤ wo21.heap.size := hb26.out.size
  clear hwo21 n20 hb18 B15 L19
  refine (ints_any g0 h0 [0, 2, 1] (some ⟨v2.heap.size, 0, none⟩) 3 [0, 2, 1] (by simp) _ _ (L24.out.is (by omega)).1 (L25.out.is (by omega)).1).mono ?_
  rintro e v3 ⟨rfl, hB⟩
  have z27 : wo21.heap.size ≤ v3.heap.size := hB.size
  have B28 : Hid (Abx v3 (w.heap.size) (.bool true) (.slice sa1 sz1.length sc1) (.slice da1 dz1.length dc1)) := B23.out.go hB
  have L29 : Hid (MidC (v1.heap.size) (v2.heap.size) v3 (g0) ([0, 2, 1]) (h0)) := L24.out.go (by omega) hB
  have L30 : Hid (MidC (v2.heap.size) (v2.heap.size + 1) v3 (some ⟨v2.heap.size, 0, none⟩) ([0, 2, 1]) (3)) := L25.out.go (by omega) hB
  have hb31 : Hid (Below w.heap.size w v3) := hb26.out.trans (hB.mono hb26.out.size)
  clear hB hb26 B23 L24 L25
  rw [eqB_true rfl]
  clear L29 L30
  have l32 := (B28.out).c0
  have l33 := (B28.out).c1
  have l34 := (B28.out).c2
  go_wp2_with fail
  clear l32 l33 l34
  refine (dnw_ok true sa1 sc1 sz1 sz1.length rfl da1 dc1 dz1 dz1.length rfl _ x11 x12 ((HI1.out.1.below hb31.out).mono hb31.out.size) ((HI1.out.2.1.below hb31.out).mono hb31.out.size) O HD HO.out).mono ?_
  rintro e v4 ⟨g1, h1, rfl, hN1, hB⟩
  have z35 : v3.heap.size ≤ v4.heap.size := hB.size
  have B36 : Hid (Abx v4 (w.heap.size) (.bool true) (.slice sa1 sz1.length sc1) (.slice da1 dz1.length dc1)) := B28.out.go hB
  have hb37 : Hid (Below w.heap.size w v4) := hb31.out.trans (hB.mono hb31.out.size)
  have L38 : Hid (MidC (v3.heap.size) (v4.heap.size) v4 (g1) (O) (h1)) := hN1.midc
  clear hB hb31 B28 hN1
  have l0 := B36.out.c0
  go_wp2_with fail
  go_ret
  exact ⟨rfl, hb37.out⟩
set_option maxRecDepth 100000 in
set_option maxHeartbeats 8000000 in
theorem downs_ok (HD : CDn) (HU : CUp) (H2 : C2d) (c1 : Bool) (sa1 : Option Addr) (sc1 : Nat) (sz1 : List Int) (da1 : Option Addr) (dc1 : Nat) (dz1 : List Int) (w : World) (w8 : IsArrD w sa1 sz1 sc1 da1 dz1 dc1) (F1 : Hid (gdE c1 sz1 dz1 = 0)) (hc : c1 = false) :
    Calls Try.prog 4 #[.agg #[.bool c1, .slice sa1 sz1.length sc1, .slice da1 dz1.length dc1]] w fun e w' => e = .returned (.bool true) ∧ Below w.heap.size w w' := by
  subst hc
  have T1 := w8.2.2.2.2.2
  obtain ⟨O, hO⟩ : ∃ O, O = gdO true sz1 dz1 := ⟨_, rfl⟩
  have lO : O.length ≤ 4096 := by rw [hO, gdO_length]; exact (nR_is F1.out).2
  obtain ⟨N, hN⟩ : ∃ N, N = negL dz1 := ⟨_, rfl⟩
  have f1 := (gdE_zero.1 F1.out).1
  have HO : Hid (gdE false sz1 dz1 = 0 ∧ gdO true sz1 dz1 = O) := ⟨F1.out, hO.symm⟩
  have HN : Hid (e2E 2 false [] [-1] false sz1 dz1 = 0 ∧ shp [] sz1 = sz1 ∧ e2V 2 false [] [-1] false sz1 dz1 = N) := by have h := neg_two f1 T1; rw [← hN] at h; exact h
  have HU2 : Hid (gdE false sz1 N = 0 ∧ gdO false sz1 N = O) := by have h := neg_gd F1.out; rw [← hN, ← hO] at h; exact h
  have lN : N.length ≤ 4096 := by rw [hN, negL_length]; exact (flawE_short f1).2
  have ls6 : sz1.length ≤ 6 := (flawE_short f1).1
  clear hO hN f1 T1
  obtain ⟨x11, x12, x3, x4, s64, T⟩ := w8
  have HI1 : Hid (IsC w.heap.size w sa1 sz1 sc1 ∧ IsC w.heap.size w da1 dz1 dc1 ∧ (∀ j, In64 (nth sz1 j)) ∧ ∀ j, In64 (nth dz1 j)) := ⟨x3, x4, s64, T⟩
  clear x3 x4 T s64
  have n1 := Abx.new w (.bool false) (.slice sa1 sz1.length sc1) (.slice da1 dz1.length dc1)
  have n2 := lit_mid (w.alloc (.cells #[.bool false, .slice sa1 sz1.length sc1, .slice da1 dz1.length dc1] 24)) 3 [5, 3, 5] 3 rfl
  simp only [World.size_alloc, List.map_cons, List.map_nil] at n2
  go_enter Try.func4, Try.ntmps4
  go_wp2_with fail
  obtain ⟨wo3, hwo3⟩ : ∃ wo3, wo3 = ((w.alloc (.cells #[.bool false, .slice sa1 sz1.length sc1, .slice da1 dz1.length dc1] 24)).alloc (.cells #[.int .i64 5, .int .i64 3, .int .i64 5] 3)) := ⟨_, rfl⟩
  rw [← hwo3]
  have z4 : w.heap.size + 1 + 1 ≤ wo3.heap.size := by rw [hwo3]; simp only [World.size_alloc]; omega
  have B5 : Hid (Abx wo3 (w.heap.size) (.bool false) (.slice sa1 sz1.length sc1) (.slice da1 dz1.length dc1)) := by rw [hwo3]; exact (n1.al (.cells #[.int .i64 5, .int .i64 3, .int .i64 5] 3))
  have L6 : Hid (MidC (w.heap.size + 1) (w.heap.size + 1 + 1) wo3 (some ⟨w.heap.size + 1, 0, none⟩) ([5, 3, 5]) (3)) := by rw [hwo3]; exact n2
  have hb7 : Hid (Below w.heap.size w wo3) := by rw [hwo3]; exact (((Below.refl w.heap.size w).alloc (by omega) (.cells #[.bool false, .slice sa1 sz1.length sc1, .slice da1 dz1.length dc1] 24)).alloc (by simp only [World.size_alloc]; omega) (.cells #[.int .i64 5, .int .i64 3, .int .i64 5] 3))
  have zwo3 : w.heap.size ≤ wo3.heap.size := hb7.out.size
  clear hwo3 n1 n2
  refine (vec_c (some ⟨w.heap.size + 1, 0, none⟩) 3 [5, 3, 5] (by simp) _ (L6.out.is (by omega)).1).mono ?_
  rintro e v1 ⟨vap, vcp, gap, gcp, rfl, hVp, hGp, hB⟩
  have z8 : wo3.heap.size ≤ v1.heap.size := hB.size
  have B9 : Hid (Abx v1 (w.heap.size) (.bool false) (.slice sa1 sz1.length sc1) (.slice da1 dz1.length dc1)) := B5.out.go hB
  have L10 : Hid (MidC (w.heap.size + 1) (w.heap.size + 1 + 1) v1 (some ⟨w.heap.size + 1, 0, none⟩) ([5, 3, 5]) (3)) := L6.out.go (by omega) hB
  have hb11 : Hid (Below w.heap.size w v1) := hb7.out.trans (hB.mono hb7.out.size)
  have L12 : Hid (MidC (wo3.heap.size) (v1.heap.size) v1 (vap) ([(3 : Int)]) (vcp)) := hVp.midc
  have L13 : Hid (MidC (wo3.heap.size) (v1.heap.size) v1 (gap) ([5, 3, 5]) (gcp)) := hGp.midc
  clear hB hb7 B5 L6 hVp hGp
  clear L10
  go_wp2_with fail
  refine (dnw_ok false vap vcp [(3 : Int)] 1 rfl gap gcp [5, 3, 5] 3 rfl _ (by decide) (by decide) (L12.out.is (by omega)) (L13.out.is (by omega)) [0, 2, 1] HD (by decide)).mono ?_
  rintro e v2 ⟨g0, h0, rfl, hN0, hB⟩
  have z14 : v1.heap.size ≤ v2.heap.size := hB.size
  have B15 : Hid (Abx v2 (w.heap.size) (.bool false) (.slice sa1 sz1.length sc1) (.slice da1 dz1.length dc1)) := B9.out.go hB
  have L16 : Hid (MidC (wo3.heap.size) (v1.heap.size) v2 (vap) ([(3 : Int)]) (vcp)) := L12.out.go (by omega) hB
  have L17 : Hid (MidC (wo3.heap.size) (v1.heap.size) v2 (gap) ([5, 3, 5]) (gcp)) := L13.out.go (by omega) hB
  have hb18 : Hid (Below w.heap.size w v2) := hb11.out.trans (hB.mono hb11.out.size)
  have L19 : Hid (MidC (v1.heap.size) (v2.heap.size) v2 (g0) ([0, 2, 1]) (h0)) := hN0.midc
  clear hB hb11 B9 L12 L13 hN0
  clear L16 L17
  have n20 := lit_mid v2 3 [0, 2, 1] 3 rfl
  simp only [List.map_cons, List.map_nil] at n20
  go_wp2_with fail
  obtain ⟨wo21, hwo21⟩ : ∃ wo21, wo21 = (v2.alloc (.cells #[.int .i64 0, .int .i64 2, .int .i64 1] 3)) := ⟨_, rfl⟩
  rw [← hwo21]
  have z22 : v2.heap.size + 1 ≤ wo21.heap.size := by rw [hwo21]; simp only [World.size_alloc]; omega
  have B23 : Hid (Abx wo21 (w.heap.size) (.bool false) (.slice sa1 sz1.length sc1) (.slice da1 dz1.length dc1)) := by rw [hwo21]; exact (B15.out.al (.cells #[.int .i64 0, .int .i64 2, .int .i64 1] 3))
  have L24 : Hid (MidC (v1.heap.size) (v2.heap.size) wo21 (g0) ([0, 2, 1]) (h0)) := by rw [hwo21]; exact (L19.out.al (by omega) (.cells #[.int .i64 0, .int .i64 2, .int .i64 1] 3))
  have L25 : Hid (MidC (v2.heap.size) (v2.heap.size + 1) wo21 (some ⟨v2.heap.size, 0, none⟩) ([0, 2, 1]) (3)) := by rw [hwo21]; exact n20
  have hb26 : Hid (Below w.heap.size w wo21) := by rw [hwo21]; exact (hb18.out.alloc (by omega) (.cells #[.int .i64 0, .int .i64 2, .int .i64 1] 3))
  have zwo21 : w.heap.size ≤ wo21.heap.size := hb26.out.size
  clear hwo21 n20 hb18 B15 L19
  refine (ints_any g0 h0 [0, 2, 1] (some ⟨v2.heap.size, 0, none⟩) 3 [0, 2, 1] (by simp) _ _ (L24.out.is (by omega)).1 (L25.out.is (by omega)).1).mono ?_
  rintro e v3 ⟨rfl, hB⟩
  have z27 : wo21.heap.size ≤ v3.heap.size := hB.size
  have B28 : Hid (Abx v3 (w.heap.size) (.bool false) (.slice sa1 sz1.length sc1) (.slice da1 dz1.length dc1)) := B23.out.go hB
  have L29 : Hid (MidC (v1.heap.size) (v2.heap.size) v3 (g0) ([0, 2, 1]) (h0)) := L24.out.go (by omega) hB
  have L30 : Hid (MidC (v2.heap.size) (v2.heap.size + 1) v3 (some ⟨v2.heap.size, 0, none⟩) ([0, 2, 1]) (3)) := L25.out.go (by omega) hB
  have hb31 : Hid (Below w.heap.size w v3) := hb26.out.trans (hB.mono hb26.out.size)
  clear hB hb26 B23 L24 L25
  rw [eqB_true rfl]
  clear L29 L30
  have l32 := (B28.out).c0
  have l33 := (B28.out).c1
  have l34 := (B28.out).c2
  go_wp2_with fail
  clear l32 l33 l34
  refine (dnw_ok false sa1 sc1 sz1 sz1.length rfl da1 dc1 dz1 dz1.length rfl _ x11 x12 ((HI1.out.1.below hb31.out).mono hb31.out.size) ((HI1.out.2.1.below hb31.out).mono hb31.out.size) O HD HO.out).mono ?_
  rintro e v4 ⟨g1, h1, rfl, hN1, hB⟩
  have z35 : v3.heap.size ≤ v4.heap.size := hB.size
  have B36 : Hid (Abx v4 (w.heap.size) (.bool false) (.slice sa1 sz1.length sc1) (.slice da1 dz1.length dc1)) := B28.out.go hB
  have hb37 : Hid (Below w.heap.size w v4) := hb31.out.trans (hB.mono hb31.out.size)
  have L38 : Hid (MidC (v3.heap.size) (v4.heap.size) v4 (g1) (O) (h1)) := hN1.midc
  clear hB hb31 B28 hN1
  have l39 := (B36.out).c0
  have l40 := (B36.out).c1
  have l41 := (B36.out).c2
  have n42 := lit_mid v4 3 [-1] 1 rfl
  simp only [List.map_cons, List.map_nil] at n42
  have l43 := ((B36.out.al (.cells #[.int .i64 (-1)] 3))).c0
  have l44 := ((B36.out.al (.cells #[.int .i64 (-1)] 3))).c1
  have l45 := ((B36.out.al (.cells #[.int .i64 (-1)] 3))).c2
  go_wp2_with fail
  obtain ⟨wo46, hwo46⟩ : ∃ wo46, wo46 = (v4.alloc (.cells #[.int .i64 (-1)] 3)) := ⟨_, rfl⟩
  rw [← hwo46]
  have z47 : v4.heap.size + 1 ≤ wo46.heap.size := by rw [hwo46]; simp only [World.size_alloc]; omega
  have B48 : Hid (Abx wo46 (w.heap.size) (.bool false) (.slice sa1 sz1.length sc1) (.slice da1 dz1.length dc1)) := by rw [hwo46]; exact (B36.out.al (.cells #[.int .i64 (-1)] 3))
  have L49 : Hid (MidC (v3.heap.size) (v4.heap.size) wo46 (g1) (O) (h1)) := by rw [hwo46]; exact (L38.out.al (by omega) (.cells #[.int .i64 (-1)] 3))
  have L50 : Hid (MidC (v4.heap.size) (v4.heap.size + 1) wo46 (some ⟨v4.heap.size, 0, none⟩) ([-1]) (1)) := by rw [hwo46]; exact n42
  have hb51 : Hid (Below w.heap.size w wo46) := by rw [hwo46]; exact (hb37.out.alloc (by omega) (.cells #[.int .i64 (-1)] 3))
  have zwo46 : w.heap.size ≤ wo46.heap.size := hb51.out.size
  clear hwo46 l39 l40 l41 n42 l43 l44 l45 hb37 B36 L38
  refine (c2d_ok H2 2 false none 0 [] 0 rfl (some ⟨v4.heap.size, 0, none⟩) 1 [-1] 1 rfl false sa1 sc1 sz1 da1 dc1 dz1 _ (by unfold In64; omega) (by decide) (by decide) x11 x12 (.inl rfl) (L50.out.is (by omega)).1 ((HI1.out.1.1.below hb51.out).mono hb51.out.size) ((HI1.out.2.1.1.below hb51.out).mono hb51.out.size) (lit10 (by decide)) HI1.out.2.2.2 sz1 N HN.out).mono ?_
  rintro e v5 ⟨xa2, xc2, ya2, yc2, rfl, hX2, hY2, hB⟩
  have z52 : wo46.heap.size ≤ v5.heap.size := hB.size
  have B53 : Hid (Abx v5 (w.heap.size) (.bool false) (.slice sa1 sz1.length sc1) (.slice da1 dz1.length dc1)) := B48.out.go hB
  have L54 : Hid (MidC (v3.heap.size) (v4.heap.size) v5 (g1) (O) (h1)) := L49.out.go (by omega) hB
  have L55 : Hid (MidC (v4.heap.size) (v4.heap.size + 1) v5 (some ⟨v4.heap.size, 0, none⟩) ([-1]) (1)) := L50.out.go (by omega) hB
  have hb56 : Hid (Below w.heap.size w v5) := hb51.out.trans (hB.mono hb51.out.size)
  have L57 : Hid (MidC (wo46.heap.size) (v5.heap.size) v5 (xa2) (sz1) (xc2)) := hX2.midc
  have L58 : Hid (MidC (wo46.heap.size) (v5.heap.size) v5 (ya2) (N) (yc2)) := hY2.midc
  clear hB hb51 B48 L49 L50 hX2 hY2
  clear L55
  have n59 := Abx.new v5 (.bool false) (.slice xa2 sz1.length xc2) (.slice ya2 N.length yc2)
  have l60 := (n59).c0
  have l61 := (n59).c1
  have l62 := (n59).c2
  go_wp2_with fail
  obtain ⟨wo63, hwo63⟩ : ∃ wo63, wo63 = (v5.alloc (.cells #[.bool false, .slice xa2 sz1.length xc2, .slice ya2 N.length yc2] 24)) := ⟨_, rfl⟩
  rw [← hwo63]
  have z64 : v5.heap.size + 1 ≤ wo63.heap.size := by rw [hwo63]; simp only [World.size_alloc]; omega
  have B65 : Hid (Abx wo63 (w.heap.size) (.bool false) (.slice sa1 sz1.length sc1) (.slice da1 dz1.length dc1)) := by rw [hwo63]; exact (B53.out.al (.cells #[.bool false, .slice xa2 sz1.length xc2, .slice ya2 N.length yc2] 24))
  have B66 : Hid (Abx wo63 (v5.heap.size) (.bool false) (.slice xa2 sz1.length xc2) (.slice ya2 N.length yc2)) := by rw [hwo63]; exact n59
  have L67 : Hid (MidC (v3.heap.size) (v4.heap.size) wo63 (g1) (O) (h1)) := by rw [hwo63]; exact (L54.out.al (by omega) (.cells #[.bool false, .slice xa2 sz1.length xc2, .slice ya2 N.length yc2] 24))
  have L68 : Hid (MidC (wo46.heap.size) (v5.heap.size) wo63 (xa2) (sz1) (xc2)) := by rw [hwo63]; exact (L57.out.al (by omega) (.cells #[.bool false, .slice xa2 sz1.length xc2, .slice ya2 N.length yc2] 24))
  have L69 : Hid (MidC (wo46.heap.size) (v5.heap.size) wo63 (ya2) (N) (yc2)) := by rw [hwo63]; exact (L58.out.al (by omega) (.cells #[.bool false, .slice xa2 sz1.length xc2, .slice ya2 N.length yc2] 24))
  have hb70 : Hid (Below w.heap.size w wo63) := by rw [hwo63]; exact (hb56.out.alloc (by omega) (.cells #[.bool false, .slice xa2 sz1.length xc2, .slice ya2 N.length yc2] 24))
  have zwo63 : w.heap.size ≤ wo63.heap.size := hb70.out.size
  clear hwo63 n59 l60 l61 l62 hb56 B53 L54 L57 L58
  refine (upw_ok false xa2 xc2 sz1 sz1.length rfl ya2 yc2 N N.length rfl _ (by omega) (by omega) (L68.out.is (by omega)) (L69.out.is (by omega)) O HU HU2.out).mono ?_
  rintro e v6 ⟨g3, h3, rfl, hN3, hB⟩
  have z71 : wo63.heap.size ≤ v6.heap.size := hB.size
  have B72 : Hid (Abx v6 (w.heap.size) (.bool false) (.slice sa1 sz1.length sc1) (.slice da1 dz1.length dc1)) := B65.out.go hB
  have B73 : Hid (Abx v6 (v5.heap.size) (.bool false) (.slice xa2 sz1.length xc2) (.slice ya2 N.length yc2)) := B66.out.go hB
  have L74 : Hid (MidC (v3.heap.size) (v4.heap.size) v6 (g1) (O) (h1)) := L67.out.go (by omega) hB
  have L75 : Hid (MidC (wo46.heap.size) (v5.heap.size) v6 (xa2) (sz1) (xc2)) := L68.out.go (by omega) hB
  have L76 : Hid (MidC (wo46.heap.size) (v5.heap.size) v6 (ya2) (N) (yc2)) := L69.out.go (by omega) hB
  have hb77 : Hid (Below w.heap.size w v6) := hb70.out.trans (hB.mono hb70.out.size)
  have L78 : Hid (MidC (wo63.heap.size) (v6.heap.size) v6 (g3) (O) (h3)) := hN3.midc
  clear hB hb70 B65 B66 L67 L68 L69 hN3
  go_wp2_with fail
  refine (list_eq g1 h1 O O.length rfl g3 h3 O.length rfl _ (by omega) (L74.out.is (by omega)).1 (L78.out.is (by omega)).1).mono ?_
  rintro e v7 ⟨rfl, hB⟩
  have z79 : v6.heap.size ≤ v7.heap.size := hB.size
  have B80 : Hid (Abx v7 (w.heap.size) (.bool false) (.slice sa1 sz1.length sc1) (.slice da1 dz1.length dc1)) := B72.out.go hB
  have B81 : Hid (Abx v7 (v5.heap.size) (.bool false) (.slice xa2 sz1.length xc2) (.slice ya2 N.length yc2)) := B73.out.go hB
  have L82 : Hid (MidC (v3.heap.size) (v4.heap.size) v7 (g1) (O) (h1)) := L74.out.go (by omega) hB
  have L83 : Hid (MidC (wo46.heap.size) (v5.heap.size) v7 (xa2) (sz1) (xc2)) := L75.out.go (by omega) hB
  have L84 : Hid (MidC (wo46.heap.size) (v5.heap.size) v7 (ya2) (N) (yc2)) := L76.out.go (by omega) hB
  have L85 : Hid (MidC (wo63.heap.size) (v6.heap.size) v7 (g3) (O) (h3)) := L78.out.go (by omega) hB
  have hb86 : Hid (Below w.heap.size w v7) := hb77.out.trans (hB.mono hb77.out.size)
  clear hB hb77 B72 B73 L74 L75 L76 L78
  go_wp2_with fail
  go_ret
  exact ⟨rfl, hb86.out⟩
theorem gdowns_walk (HD : CDn) (HU : CUp) (H2 : C2d) (c1 : Bool) (sa1 : Option Addr) (sc1 : Nat) (sz1 : List Int) (da1 : Option Addr) (dc1 : Nat) (dz1 : List Int) (w : World) (w8 : IsArrD w sa1 sz1 sc1 da1 dz1 dc1) :
    Calls Try.prog 4 #[.agg #[.bool c1, .slice sa1 sz1.length sc1, .slice da1 dz1.length dc1]] w fun e w' => e = .returned (.bool true) ∧ Below w.heap.size w w' := by
  by_cases h1 : gdE c1 sz1 dz1 = 0
  · by_cases hc : c1 = true
    · exact downs_ch HD HU H2 c1 sa1 sc1 sz1 da1 dc1 dz1 w w8 h1 hc
    · exact downs_ok HD HU H2 c1 sa1 sc1 sz1 da1 dc1 dz1 w w8 h1 (by simpa using hc)
  · exact downs_no HD HU H2 c1 sa1 sc1 sz1 da1 dc1 dz1 w w8 h1
end Go.Proofs.Ytmbgomljofngnab
