/-
  The walk of the statement SeekFound, given what the program tells.
-/
import Derived.Test.YteieliajdfbipaaSekw
import Derived.Test.YteieliajdfbipaaMidc
import Derived.Test.YteieliajdfbipaaSarr
import Derived.Test.YteieliajdfbipaaVec
import Derived.Deep.QuietTactic
import Derived.BigQuiet
import Derived.WalkSmall
namespace Go.Proofs.Yteieliajdfbipaa
open Go.RowKit
set_option linter.unusedVariables false

theorem lit_all {xs : List Int} (h : xs.all (fun x => decide (-9223372036854775808 ≤ x ∧ x ≤ 9223372036854775807)) = true) : ∀ j, In64 (nth xs j) := fun j => by
  by_cases hj : j < xs.length
  · have : nth xs j ∈ xs := by simp [nth, hj]
    exact of_decide_eq_true (p := -9223372036854775808 ≤ nth xs j ∧ nth xs j ≤ 9223372036854775807) (List.all_eq_true.1 h _ this)
  · have : nth xs j = 0 := by simp [nth, List.getElem?_eq_none (Nat.le_of_not_lt hj)]
    rw [this]; unfold In64; decide
set_option maxRecDepth 100000 in
set_option maxHeartbeats 8000000 in
theorem found_no (HIx : CIx) (HIn : CIn) (c1 : Bool) (sa1 : Option Addr) (sc1 : Nat) (sz1 : List Int) (da1 : Option Addr) (dc1 : Nat) (dz1 : List Int) (c2 : Bool) (sa2 : Option Addr) (sc2 : Nat) (sz2 : List Int) (da2 : Option Addr) (dc2 : Nat) (dz2 : List Int) (w : World) (w8 : IsArrD w sa1 sz1 sc1 da1 dz1 dc1) (w9 : IsArrD w sa2 sz2 sc2 da2 dz2 dc2) (F1 : Hid (ixE c1 sz1 dz1 c2 sz2 dz2 ≠ 0)) :
    Calls Try.prog 3 #[.agg #[.bool c1, .slice sa1 sz1.length sc1, .slice da1 dz1.length dc1], .agg #[.bool c2, .slice sa2 sz2.length sc2, .slice da2 dz2.length dc2]] w fun e w' => e = .returned (.bool true) ∧ Below w.heap.size w w' := by
  obtain ⟨x11, x12, x3, x4, s64, T⟩ := w8
  have HI1 : Hid (IsC w.heap.size w sa1 sz1 sc1 ∧ IsC w.heap.size w da1 dz1 dc1 ∧ (∀ j, In64 (nth sz1 j)) ∧ ∀ j, In64 (nth dz1 j)) := ⟨x3, x4, s64, T⟩
  clear x3 x4 T s64
  obtain ⟨x21, x22, x3, x4, s64, T⟩ := w9
  have HI2 : Hid (IsC w.heap.size w sa2 sz2 sc2 ∧ IsC w.heap.size w da2 dz2 dc2 ∧ (∀ j, In64 (nth sz2 j)) ∧ ∀ j, In64 (nth dz2 j)) := ⟨x3, x4, s64, T⟩
  clear x3 x4 T s64
  have n1 := Abx.new w (.bool c1) (.slice sa1 sz1.length sc1) (.slice da1 dz1.length dc1)
  have n2 := Abx.new (w.alloc (.cells #[.bool c1, .slice sa1 sz1.length sc1, .slice da1 dz1.length dc1] 24)) (.bool c2) (.slice sa2 sz2.length sc2) (.slice da2 dz2.length dc2)
  simp only [World.size_alloc] at n2
  have n3 := lit_mid ((w.alloc (.cells #[.bool c1, .slice sa1 sz1.length sc1, .slice da1 dz1.length dc1] 24)).alloc (.cells #[.bool c2, .slice sa2 sz2.length sc2, .slice da2 dz2.length dc2] 24)) 3 [5, 6] 2 rfl
  simp only [World.size_alloc, List.map_cons, List.map_nil] at n3
  go_enter Try.func3, Try.ntmps3
  go_wp2_with fail
  obtain ⟨wo4, hwo4⟩ : ∃ wo4, wo4 = (((w.alloc (.cells #[.bool c1, .slice sa1 sz1.length sc1, .slice da1 dz1.length dc1] 24)).alloc (.cells #[.bool c2, .slice sa2 sz2.length sc2, .slice da2 dz2.length dc2] 24)).alloc (.cells #[.int .i64 5, .int .i64 6] 3)) := ⟨_, rfl⟩
  rw [← hwo4]
  have z5 : w.heap.size + 1 + 1 + 1 ≤ wo4.heap.size := by rw [hwo4]; simp only [World.size_alloc]; omega
  have B6 : Hid (Abx wo4 (w.heap.size) (.bool c1) (.slice sa1 sz1.length sc1) (.slice da1 dz1.length dc1)) := by rw [hwo4]; exact ((n1.al (.cells #[.bool c2, .slice sa2 sz2.length sc2, .slice da2 dz2.length dc2] 24)).al (.cells #[.int .i64 5, .int .i64 6] 3))
  have B7 : Hid (Abx wo4 (w.heap.size + 1) (.bool c2) (.slice sa2 sz2.length sc2) (.slice da2 dz2.length dc2)) := by rw [hwo4]; exact (n2.al (.cells #[.int .i64 5, .int .i64 6] 3))
  have L8 : Hid (MidC (w.heap.size + 1 + 1) (w.heap.size + 1 + 1 + 1) wo4 (some ⟨w.heap.size + 1 + 1, 0, none⟩) ([5, 6]) (2)) := by rw [hwo4]; exact n3
  have hb9 : Hid (Below w.heap.size w wo4) := by rw [hwo4]; exact ((((Below.refl w.heap.size w).alloc (by omega) (.cells #[.bool c1, .slice sa1 sz1.length sc1, .slice da1 dz1.length dc1] 24)).alloc (by simp only [World.size_alloc]; omega) (.cells #[.bool c2, .slice sa2 sz2.length sc2, .slice da2 dz2.length dc2] 24)).alloc (by simp only [World.size_alloc]; omega) (.cells #[.int .i64 5, .int .i64 6] 3))
  have zwo4 : w.heap.size ≤ wo4.heap.size := hb9.out.size
  clear hwo4 n1 n2 n3
  refine (vec_c (some ⟨w.heap.size + 1 + 1, 0, none⟩) 2 [5, 6] (by simp) _ (L8.out.is (by omega)).1).mono ?_
  rintro e v1 ⟨vap, vcp, gap, gcp, rfl, hVp, hGp, hB⟩
  have z10 : wo4.heap.size ≤ v1.heap.size := hB.size
  have B11 : Hid (Abx v1 (w.heap.size) (.bool c1) (.slice sa1 sz1.length sc1) (.slice da1 dz1.length dc1)) := B6.out.go hB
  have B12 : Hid (Abx v1 (w.heap.size + 1) (.bool c2) (.slice sa2 sz2.length sc2) (.slice da2 dz2.length dc2)) := B7.out.go hB
  have L13 : Hid (MidC (w.heap.size + 1 + 1) (w.heap.size + 1 + 1 + 1) v1 (some ⟨w.heap.size + 1 + 1, 0, none⟩) ([5, 6]) (2)) := L8.out.go (by omega) hB
  have hb14 : Hid (Below w.heap.size w v1) := hb9.out.trans (hB.mono hb9.out.size)
  have L15 : Hid (MidC (wo4.heap.size) (v1.heap.size) v1 (vap) ([(2 : Int)]) (vcp)) := hVp.midc
  have L16 : Hid (MidC (wo4.heap.size) (v1.heap.size) v1 (gap) ([5, 6]) (gcp)) := hGp.midc
  clear hB hb9 B6 B7 L8 hVp hGp
  clear L13
  have n17 := lit_mid v1 3 [6, 7] 2 rfl
  simp only [List.map_cons, List.map_nil] at n17
  go_wp2_with fail
  obtain ⟨wo18, hwo18⟩ : ∃ wo18, wo18 = (v1.alloc (.cells #[.int .i64 6, .int .i64 7] 3)) := ⟨_, rfl⟩
  rw [← hwo18]
  have z19 : v1.heap.size + 1 ≤ wo18.heap.size := by rw [hwo18]; simp only [World.size_alloc]; omega
  have B20 : Hid (Abx wo18 (w.heap.size) (.bool c1) (.slice sa1 sz1.length sc1) (.slice da1 dz1.length dc1)) := by rw [hwo18]; exact (B11.out.al (.cells #[.int .i64 6, .int .i64 7] 3))
  have B21 : Hid (Abx wo18 (w.heap.size + 1) (.bool c2) (.slice sa2 sz2.length sc2) (.slice da2 dz2.length dc2)) := by rw [hwo18]; exact (B12.out.al (.cells #[.int .i64 6, .int .i64 7] 3))
  have L22 : Hid (MidC (wo4.heap.size) (v1.heap.size) wo18 (vap) ([(2 : Int)]) (vcp)) := by rw [hwo18]; exact (L15.out.al (by omega) (.cells #[.int .i64 6, .int .i64 7] 3))
  have L23 : Hid (MidC (wo4.heap.size) (v1.heap.size) wo18 (gap) ([5, 6]) (gcp)) := by rw [hwo18]; exact (L16.out.al (by omega) (.cells #[.int .i64 6, .int .i64 7] 3))
  have L24 : Hid (MidC (v1.heap.size) (v1.heap.size + 1) wo18 (some ⟨v1.heap.size, 0, none⟩) ([6, 7]) (2)) := by rw [hwo18]; exact n17
  have hb25 : Hid (Below w.heap.size w wo18) := by rw [hwo18]; exact (hb14.out.alloc (by omega) (.cells #[.int .i64 6, .int .i64 7] 3))
  have zwo18 : w.heap.size ≤ wo18.heap.size := hb25.out.size
  clear hwo18 n17 hb14 B11 B12 L15 L16
  refine (vec_c (some ⟨v1.heap.size, 0, none⟩) 2 [6, 7] (by simp) _ (L24.out.is (by omega)).1).mono ?_
  rintro e v2 ⟨vaq, vcq, gaq, gcq, rfl, hVq, hGq, hB⟩
  have z26 : wo18.heap.size ≤ v2.heap.size := hB.size
  have B27 : Hid (Abx v2 (w.heap.size) (.bool c1) (.slice sa1 sz1.length sc1) (.slice da1 dz1.length dc1)) := B20.out.go hB
  have B28 : Hid (Abx v2 (w.heap.size + 1) (.bool c2) (.slice sa2 sz2.length sc2) (.slice da2 dz2.length dc2)) := B21.out.go hB
  have L29 : Hid (MidC (wo4.heap.size) (v1.heap.size) v2 (vap) ([(2 : Int)]) (vcp)) := L22.out.go (by omega) hB
  have L30 : Hid (MidC (wo4.heap.size) (v1.heap.size) v2 (gap) ([5, 6]) (gcp)) := L23.out.go (by omega) hB
  have L31 : Hid (MidC (v1.heap.size) (v1.heap.size + 1) v2 (some ⟨v1.heap.size, 0, none⟩) ([6, 7]) (2)) := L24.out.go (by omega) hB
  have hb32 : Hid (Below w.heap.size w v2) := hb25.out.trans (hB.mono hb25.out.size)
  have L33 : Hid (MidC (wo18.heap.size) (v2.heap.size) v2 (vaq) ([(2 : Int)]) (vcq)) := hVq.midc
  have L34 : Hid (MidC (wo18.heap.size) (v2.heap.size) v2 (gaq) ([6, 7]) (gcq)) := hGq.midc
  clear hB hb25 B20 B21 L22 L23 L24 hVq hGq
  clear L31
  go_wp2_with fail
  refine (ix_ok false vap vcp [(2 : Int)] 1 rfl gap gcp [5, 6] false vaq vcq [(2 : Int)] 1 rfl gaq gcq [6, 7] _ (by decide) (by simp) (by decide) (by simp) (L29.out.is (by omega)).1 (L30.out.is (by omega)).1 (L33.out.is (by omega)).1 (L34.out.is (by omega)).1 (lit_all (by decide)) (lit_all (by decide)) [2] [1, 2] HIx (by decide)).mono ?_
  rintro e v3 ⟨f1, g1, f2, g2, rfl, hX0, hY0, hB⟩
  have z35 : v2.heap.size ≤ v3.heap.size := hB.size
  have B36 : Hid (Abx v3 (w.heap.size) (.bool c1) (.slice sa1 sz1.length sc1) (.slice da1 dz1.length dc1)) := B27.out.go hB
  have B37 : Hid (Abx v3 (w.heap.size + 1) (.bool c2) (.slice sa2 sz2.length sc2) (.slice da2 dz2.length dc2)) := B28.out.go hB
  have L38 : Hid (MidC (wo4.heap.size) (v1.heap.size) v3 (vap) ([(2 : Int)]) (vcp)) := L29.out.go (by omega) hB
  have L39 : Hid (MidC (wo4.heap.size) (v1.heap.size) v3 (gap) ([5, 6]) (gcp)) := L30.out.go (by omega) hB
  have L40 : Hid (MidC (wo18.heap.size) (v2.heap.size) v3 (vaq) ([(2 : Int)]) (vcq)) := L33.out.go (by omega) hB
  have L41 : Hid (MidC (wo18.heap.size) (v2.heap.size) v3 (gaq) ([6, 7]) (gcq)) := L34.out.go (by omega) hB
  have hb42 : Hid (Below w.heap.size w v3) := hb32.out.trans (hB.mono hb32.out.size)
  have L43 : Hid (MidC (v2.heap.size) (v3.heap.size) v3 (f1) ([2]) (g1)) := hX0.midc
  have L44 : Hid (MidC (v2.heap.size) (v3.heap.size) v3 (f2) ([1, 2]) (g2)) := hY0.midc
  clear hB hb32 B27 B28 L29 L30 L33 L34 hX0 hY0
  clear L38 L39 L40 L41
  have n45 := Abx.new v3 (.bool false) (.slice f1 1 g1) (.slice f2 2 g2)
  have l46 := (n45).c0
  have l47 := (n45).c1
  have l48 := (n45).c2
  have n49 := lit_mid (v3.alloc (.cells #[.bool false, .slice f1 1 g1, .slice f2 2 g2] 24)) 3 [1, 2] 2 rfl
  simp only [World.size_alloc, List.map_cons, List.map_nil] at n49
  go_wp2_with fail
  obtain ⟨wo50, hwo50⟩ : ∃ wo50, wo50 = ((v3.alloc (.cells #[.bool false, .slice f1 1 g1, .slice f2 2 g2] 24)).alloc (.cells #[.int .i64 1, .int .i64 2] 3)) := ⟨_, rfl⟩
  rw [← hwo50]
  have z51 : v3.heap.size + 1 + 1 ≤ wo50.heap.size := by rw [hwo50]; simp only [World.size_alloc]; omega
  have B52 : Hid (Abx wo50 (w.heap.size) (.bool c1) (.slice sa1 sz1.length sc1) (.slice da1 dz1.length dc1)) := by rw [hwo50]; exact ((B36.out.al (.cells #[.bool false, .slice f1 1 g1, .slice f2 2 g2] 24)).al (.cells #[.int .i64 1, .int .i64 2] 3))
  have B53 : Hid (Abx wo50 (w.heap.size + 1) (.bool c2) (.slice sa2 sz2.length sc2) (.slice da2 dz2.length dc2)) := by rw [hwo50]; exact ((B37.out.al (.cells #[.bool false, .slice f1 1 g1, .slice f2 2 g2] 24)).al (.cells #[.int .i64 1, .int .i64 2] 3))
  have B54 : Hid (Abx wo50 (v3.heap.size) (.bool false) (.slice f1 1 g1) (.slice f2 2 g2)) := by rw [hwo50]; exact (n45.al (.cells #[.int .i64 1, .int .i64 2] 3))
  have L55 : Hid (MidC (v2.heap.size) (v3.heap.size) wo50 (f1) ([2]) (g1)) := by rw [hwo50]; exact ((L43.out.al (by omega) (.cells #[.bool false, .slice f1 1 g1, .slice f2 2 g2] 24)).al (by simp only [World.size_alloc]; omega) (.cells #[.int .i64 1, .int .i64 2] 3))
  have L56 : Hid (MidC (v2.heap.size) (v3.heap.size) wo50 (f2) ([1, 2]) (g2)) := by rw [hwo50]; exact ((L44.out.al (by omega) (.cells #[.bool false, .slice f1 1 g1, .slice f2 2 g2] 24)).al (by simp only [World.size_alloc]; omega) (.cells #[.int .i64 1, .int .i64 2] 3))
  have L57 : Hid (MidC (v3.heap.size + 1) (v3.heap.size + 1 + 1) wo50 (some ⟨v3.heap.size + 1, 0, none⟩) ([1, 2]) (2)) := by rw [hwo50]; exact n49
  have hb58 : Hid (Below w.heap.size w wo50) := by rw [hwo50]; exact ((hb42.out.alloc (by omega) (.cells #[.bool false, .slice f1 1 g1, .slice f2 2 g2] 24)).alloc (by simp only [World.size_alloc]; omega) (.cells #[.int .i64 1, .int .i64 2] 3))
  have zwo50 : w.heap.size ≤ wo50.heap.size := hb58.out.size
  clear hwo50 n45 l46 l47 l48 n49 hb42 B36 B37 L43 L44
  refine (ints_any f2 g2 [1, 2] (some ⟨v3.heap.size + 1, 0, none⟩) 2 [1, 2] (by simp) _ _ (L56.out.is (by omega)).1 (L57.out.is (by omega)).1).mono ?_
  rintro e v4 ⟨rfl, hB⟩
  have z59 : wo50.heap.size ≤ v4.heap.size := hB.size
  have B60 : Hid (Abx v4 (w.heap.size) (.bool c1) (.slice sa1 sz1.length sc1) (.slice da1 dz1.length dc1)) := B52.out.go hB
  have B61 : Hid (Abx v4 (w.heap.size + 1) (.bool c2) (.slice sa2 sz2.length sc2) (.slice da2 dz2.length dc2)) := B53.out.go hB
  have B62 : Hid (Abx v4 (v3.heap.size) (.bool false) (.slice f1 1 g1) (.slice f2 2 g2)) := B54.out.go hB
  have L63 : Hid (MidC (v2.heap.size) (v3.heap.size) v4 (f1) ([2]) (g1)) := L55.out.go (by omega) hB
  have L64 : Hid (MidC (v2.heap.size) (v3.heap.size) v4 (f2) ([1, 2]) (g2)) := L56.out.go (by omega) hB
  have L65 : Hid (MidC (v3.heap.size + 1) (v3.heap.size + 1 + 1) v4 (some ⟨v3.heap.size + 1, 0, none⟩) ([1, 2]) (2)) := L57.out.go (by omega) hB
  have hb66 : Hid (Below w.heap.size w v4) := hb58.out.trans (hB.mono hb58.out.size)
  clear hB hb58 B52 B53 B54 L55 L56 L57
  rw [eqB_true rfl]
  clear L63 L64 L65 B62
  have l67 := (B60.out).c0
  have l68 := (B60.out).c1
  have l69 := (B60.out).c2
  have l70 := (B61.out).c0
  have l71 := (B61.out).c1
  have l72 := (B61.out).c2
  go_wp2_with fail
  clear l67 l68 l69 l70 l71 l72
  refine (ix_no c1 sa1 sc1 sz1 sz1.length rfl da1 dc1 dz1 c2 sa2 sc2 sz2 sz2.length rfl da2 dc2 dz2 _ x11 x12 x21 x22 ((HI1.out.1.1.below hb66.out).mono hb66.out.size) ((HI1.out.2.1.1.below hb66.out).mono hb66.out.size) ((HI2.out.1.1.below hb66.out).mono hb66.out.size) ((HI2.out.2.1.1.below hb66.out).mono hb66.out.size) HI1.out.2.2.2 HI2.out.2.2.2 HIx F1.out).mono ?_
  rintro e v5 ⟨xa1, xc1, ya1, yc1, rfl, hB⟩
  have z73 : v4.heap.size ≤ v5.heap.size := hB.size
  have B74 : Hid (Abx v5 (w.heap.size) (.bool c1) (.slice sa1 sz1.length sc1) (.slice da1 dz1.length dc1)) := B60.out.go hB
  have B75 : Hid (Abx v5 (w.heap.size + 1) (.bool c2) (.slice sa2 sz2.length sc2) (.slice da2 dz2.length dc2)) := B61.out.go hB
  have hb76 : Hid (Below w.heap.size w v5) := hb66.out.trans (hB.mono hb66.out.size)
  clear hB hb66 B60 B61
  have n77 := Abx.new v5 (.bool false) (.slice xa1 0 xc1) (.slice ya1 0 yc1)
  go_wp2_with fail
  obtain ⟨wo78, hwo78⟩ : ∃ wo78, wo78 = (v5.alloc (.cells #[.bool false, .slice xa1 0 xc1, .slice ya1 0 yc1] 24)) := ⟨_, rfl⟩
  rw [← hwo78]
  have z79 : v5.heap.size + 1 ≤ wo78.heap.size := by rw [hwo78]; simp only [World.size_alloc]; omega
  have B80 : Hid (Abx wo78 (w.heap.size) (.bool c1) (.slice sa1 sz1.length sc1) (.slice da1 dz1.length dc1)) := by rw [hwo78]; exact (B74.out.al (.cells #[.bool false, .slice xa1 0 xc1, .slice ya1 0 yc1] 24))
  have B81 : Hid (Abx wo78 (w.heap.size + 1) (.bool c2) (.slice sa2 sz2.length sc2) (.slice da2 dz2.length dc2)) := by rw [hwo78]; exact (B75.out.al (.cells #[.bool false, .slice xa1 0 xc1, .slice ya1 0 yc1] 24))
  have B82 : Hid (Abx wo78 (v5.heap.size) (.bool false) (.slice xa1 0 xc1) (.slice ya1 0 yc1)) := by rw [hwo78]; exact n77
  have hb83 : Hid (Below w.heap.size w wo78) := by rw [hwo78]; exact (hb76.out.alloc (by omega) (.cells #[.bool false, .slice xa1 0 xc1, .slice ya1 0 yc1] 24))
  have zwo78 : w.heap.size ≤ wo78.heap.size := hb83.out.size
  clear hwo78 n77 hb76 B74 B75
  go_wp2_with fail
  go_ret
  exact ⟨rfl, hb83.out⟩
set_option maxRecDepth 100000 in
set_option maxHeartbeats 8000000 in
theorem found_ok (HIx : CIx) (HIn : CIn) (c1 : Bool) (sa1 : Option Addr) (sc1 : Nat) (sz1 : List Int) (da1 : Option Addr) (dc1 : Nat) (dz1 : List Int) (c2 : Bool) (sa2 : Option Addr) (sc2 : Nat) (sz2 : List Int) (da2 : Option Addr) (dc2 : Nat) (dz2 : List Int) (w : World) (w8 : IsArrD w sa1 sz1 sc1 da1 dz1 dc1) (w9 : IsArrD w sa2 sz2 sc2 da2 dz2 dc2) (F1 : Hid (ixE c1 sz1 dz1 c2 sz2 dz2 = 0)) :
    Calls Try.prog 3 #[.agg #[.bool c1, .slice sa1 sz1.length sc1, .slice da1 dz1.length dc1], .agg #[.bool c2, .slice sa2 sz2.length sc2, .slice da2 dz2.length dc2]] w fun e w' => e = .returned (.bool true) ∧ Below w.heap.size w w' := by
  obtain ⟨fa, fb, la⟩ := ixE_zero.1 F1.out
  have hd1 : dz1.length ≤ 4096 := (flawE_short fa).2
  have hd2 : dz2.length ≤ 4096 := (flawE_short fb).2
  have hs2 : sz2.length ≤ 6 := (flawE_short fb).1
  obtain ⟨X, hX⟩ : ∃ X, X = ixD c1 dz1 c2 dz2 := ⟨_, rfl⟩
  obtain ⟨N, hN⟩ : ∃ N, N = inD c2 dz2 c1 dz1 := ⟨_, rfl⟩
  have hXl : X.length = dz2.length := by rw [hX]; exact ixD_length
  have hNl : N.length = dz2.length := by rw [hN]; exact inD_length
  have HX : Hid (ixE c1 sz1 dz1 c2 sz2 dz2 = 0 ∧ ixD c1 dz1 c2 dz2 = X) := ⟨F1.out, hX.symm⟩
  have HN : Hid (flawsE c2 sz2 dz2 c1 sz1 dz1 = 0 ∧ inD c2 dz2 c1 dz1 = N) := ⟨flawsE_zero.2 ⟨fb, fa⟩, hN.symm⟩
  have HXF : Hid (∀ k, k < dz2.length → nth X k = (fdN c1 c2 (nth dz2 k) dz1 : Int)) := fun k hk => by rw [hX]; exact ixD_nth hk
  have HNF : Hid (∀ k, k < dz2.length → nth N k = if hsB c1 dz1 c2 (nth dz2 k) = true then 1 else 0) := fun k hk => by rw [hN]; exact inD_nth hk
  have HLn : Hid (X.length = dz2.length ∧ N.length = dz2.length) := ⟨hXl, hNl⟩
  have hX4 : X.length ≤ 4096 := by omega
  have hN4 : N.length ≤ 4096 := by omega
  clear fa fb la hX hN hXl hNl
  obtain ⟨x11, x12, x3, x4, s64, T⟩ := w8
  have HI1 : Hid (IsC w.heap.size w sa1 sz1 sc1 ∧ IsC w.heap.size w da1 dz1 dc1 ∧ (∀ j, In64 (nth sz1 j)) ∧ ∀ j, In64 (nth dz1 j)) := ⟨x3, x4, s64, T⟩
  clear x3 x4 T s64
  obtain ⟨x21, x22, x3, x4, s64, T⟩ := w9
  have HI2 : Hid (IsC w.heap.size w sa2 sz2 sc2 ∧ IsC w.heap.size w da2 dz2 dc2 ∧ (∀ j, In64 (nth sz2 j)) ∧ ∀ j, In64 (nth dz2 j)) := ⟨x3, x4, s64, T⟩
  clear x3 x4 T s64
  have n1 := Abx.new w (.bool c1) (.slice sa1 sz1.length sc1) (.slice da1 dz1.length dc1)
  have n2 := Abx.new (w.alloc (.cells #[.bool c1, .slice sa1 sz1.length sc1, .slice da1 dz1.length dc1] 24)) (.bool c2) (.slice sa2 sz2.length sc2) (.slice da2 dz2.length dc2)
  simp only [World.size_alloc] at n2
  have n3 := lit_mid ((w.alloc (.cells #[.bool c1, .slice sa1 sz1.length sc1, .slice da1 dz1.length dc1] 24)).alloc (.cells #[.bool c2, .slice sa2 sz2.length sc2, .slice da2 dz2.length dc2] 24)) 3 [5, 6] 2 rfl
  simp only [World.size_alloc, List.map_cons, List.map_nil] at n3
  go_enter Try.func3, Try.ntmps3
  go_wp2_with fail
  obtain ⟨wo4, hwo4⟩ : ∃ wo4, wo4 = (((w.alloc (.cells #[.bool c1, .slice sa1 sz1.length sc1, .slice da1 dz1.length dc1] 24)).alloc (.cells #[.bool c2, .slice sa2 sz2.length sc2, .slice da2 dz2.length dc2] 24)).alloc (.cells #[.int .i64 5, .int .i64 6] 3)) := ⟨_, rfl⟩
  rw [← hwo4]
  have z5 : w.heap.size + 1 + 1 + 1 ≤ wo4.heap.size := by rw [hwo4]; simp only [World.size_alloc]; omega
  have B6 : Hid (Abx wo4 (w.heap.size) (.bool c1) (.slice sa1 sz1.length sc1) (.slice da1 dz1.length dc1)) := by rw [hwo4]; exact ((n1.al (.cells #[.bool c2, .slice sa2 sz2.length sc2, .slice da2 dz2.length dc2] 24)).al (.cells #[.int .i64 5, .int .i64 6] 3))
  have B7 : Hid (Abx wo4 (w.heap.size + 1) (.bool c2) (.slice sa2 sz2.length sc2) (.slice da2 dz2.length dc2)) := by rw [hwo4]; exact (n2.al (.cells #[.int .i64 5, .int .i64 6] 3))
  have L8 : Hid (MidC (w.heap.size + 1 + 1) (w.heap.size + 1 + 1 + 1) wo4 (some ⟨w.heap.size + 1 + 1, 0, none⟩) ([5, 6]) (2)) := by rw [hwo4]; exact n3
  have hb9 : Hid (Below w.heap.size w wo4) := by rw [hwo4]; exact ((((Below.refl w.heap.size w).alloc (by omega) (.cells #[.bool c1, .slice sa1 sz1.length sc1, .slice da1 dz1.length dc1] 24)).alloc (by simp only [World.size_alloc]; omega) (.cells #[.bool c2, .slice sa2 sz2.length sc2, .slice da2 dz2.length dc2] 24)).alloc (by simp only [World.size_alloc]; omega) (.cells #[.int .i64 5, .int .i64 6] 3))
  have zwo4 : w.heap.size ≤ wo4.heap.size := hb9.out.size
  clear hwo4 n1 n2 n3
  refine (vec_c (some ⟨w.heap.size + 1 + 1, 0, none⟩) 2 [5, 6] (by simp) _ (L8.out.is (by omega)).1).mono ?_
  rintro e v1 ⟨vap, vcp, gap, gcp, rfl, hVp, hGp, hB⟩
  have z10 : wo4.heap.size ≤ v1.heap.size := hB.size
  have B11 : Hid (Abx v1 (w.heap.size) (.bool c1) (.slice sa1 sz1.length sc1) (.slice da1 dz1.length dc1)) := B6.out.go hB
  have B12 : Hid (Abx v1 (w.heap.size + 1) (.bool c2) (.slice sa2 sz2.length sc2) (.slice da2 dz2.length dc2)) := B7.out.go hB
  have L13 : Hid (MidC (w.heap.size + 1 + 1) (w.heap.size + 1 + 1 + 1) v1 (some ⟨w.heap.size + 1 + 1, 0, none⟩) ([5, 6]) (2)) := L8.out.go (by omega) hB
  have hb14 : Hid (Below w.heap.size w v1) := hb9.out.trans (hB.mono hb9.out.size)
  have L15 : Hid (MidC (wo4.heap.size) (v1.heap.size) v1 (vap) ([(2 : Int)]) (vcp)) := hVp.midc
  have L16 : Hid (MidC (wo4.heap.size) (v1.heap.size) v1 (gap) ([5, 6]) (gcp)) := hGp.midc
  clear hB hb9 B6 B7 L8 hVp hGp
  clear L13
  have n17 := lit_mid v1 3 [6, 7] 2 rfl
  simp only [List.map_cons, List.map_nil] at n17
  go_wp2_with fail
  obtain ⟨wo18, hwo18⟩ : ∃ wo18, wo18 = (v1.alloc (.cells #[.int .i64 6, .int .i64 7] 3)) := ⟨_, rfl⟩
  rw [← hwo18]
  have z19 : v1.heap.size + 1 ≤ wo18.heap.size := by rw [hwo18]; simp only [World.size_alloc]; omega
  have B20 : Hid (Abx wo18 (w.heap.size) (.bool c1) (.slice sa1 sz1.length sc1) (.slice da1 dz1.length dc1)) := by rw [hwo18]; exact (B11.out.al (.cells #[.int .i64 6, .int .i64 7] 3))
  have B21 : Hid (Abx wo18 (w.heap.size + 1) (.bool c2) (.slice sa2 sz2.length sc2) (.slice da2 dz2.length dc2)) := by rw [hwo18]; exact (B12.out.al (.cells #[.int .i64 6, .int .i64 7] 3))
  have L22 : Hid (MidC (wo4.heap.size) (v1.heap.size) wo18 (vap) ([(2 : Int)]) (vcp)) := by rw [hwo18]; exact (L15.out.al (by omega) (.cells #[.int .i64 6, .int .i64 7] 3))
  have L23 : Hid (MidC (wo4.heap.size) (v1.heap.size) wo18 (gap) ([5, 6]) (gcp)) := by rw [hwo18]; exact (L16.out.al (by omega) (.cells #[.int .i64 6, .int .i64 7] 3))
  have L24 : Hid (MidC (v1.heap.size) (v1.heap.size + 1) wo18 (some ⟨v1.heap.size, 0, none⟩) ([6, 7]) (2)) := by rw [hwo18]; exact n17
  have hb25 : Hid (Below w.heap.size w wo18) := by rw [hwo18]; exact (hb14.out.alloc (by omega) (.cells #[.int .i64 6, .int .i64 7] 3))
  have zwo18 : w.heap.size ≤ wo18.heap.size := hb25.out.size
  clear hwo18 n17 hb14 B11 B12 L15 L16
  refine (vec_c (some ⟨v1.heap.size, 0, none⟩) 2 [6, 7] (by simp) _ (L24.out.is (by omega)).1).mono ?_
  rintro e v2 ⟨vaq, vcq, gaq, gcq, rfl, hVq, hGq, hB⟩
  have z26 : wo18.heap.size ≤ v2.heap.size := hB.size
  have B27 : Hid (Abx v2 (w.heap.size) (.bool c1) (.slice sa1 sz1.length sc1) (.slice da1 dz1.length dc1)) := B20.out.go hB
  have B28 : Hid (Abx v2 (w.heap.size + 1) (.bool c2) (.slice sa2 sz2.length sc2) (.slice da2 dz2.length dc2)) := B21.out.go hB
  have L29 : Hid (MidC (wo4.heap.size) (v1.heap.size) v2 (vap) ([(2 : Int)]) (vcp)) := L22.out.go (by omega) hB
  have L30 : Hid (MidC (wo4.heap.size) (v1.heap.size) v2 (gap) ([5, 6]) (gcp)) := L23.out.go (by omega) hB
  have L31 : Hid (MidC (v1.heap.size) (v1.heap.size + 1) v2 (some ⟨v1.heap.size, 0, none⟩) ([6, 7]) (2)) := L24.out.go (by omega) hB
  have hb32 : Hid (Below w.heap.size w v2) := hb25.out.trans (hB.mono hb25.out.size)
  have L33 : Hid (MidC (wo18.heap.size) (v2.heap.size) v2 (vaq) ([(2 : Int)]) (vcq)) := hVq.midc
  have L34 : Hid (MidC (wo18.heap.size) (v2.heap.size) v2 (gaq) ([6, 7]) (gcq)) := hGq.midc
  clear hB hb25 B20 B21 L22 L23 L24 hVq hGq
  clear L31
  go_wp2_with fail
  refine (ix_ok false vap vcp [(2 : Int)] 1 rfl gap gcp [5, 6] false vaq vcq [(2 : Int)] 1 rfl gaq gcq [6, 7] _ (by decide) (by simp) (by decide) (by simp) (L29.out.is (by omega)).1 (L30.out.is (by omega)).1 (L33.out.is (by omega)).1 (L34.out.is (by omega)).1 (lit_all (by decide)) (lit_all (by decide)) [2] [1, 2] HIx (by decide)).mono ?_
  rintro e v3 ⟨f1, g1, f2, g2, rfl, hX0, hY0, hB⟩
  have z35 : v2.heap.size ≤ v3.heap.size := hB.size
  have B36 : Hid (Abx v3 (w.heap.size) (.bool c1) (.slice sa1 sz1.length sc1) (.slice da1 dz1.length dc1)) := B27.out.go hB
  have B37 : Hid (Abx v3 (w.heap.size + 1) (.bool c2) (.slice sa2 sz2.length sc2) (.slice da2 dz2.length dc2)) := B28.out.go hB
  have L38 : Hid (MidC (wo4.heap.size) (v1.heap.size) v3 (vap) ([(2 : Int)]) (vcp)) := L29.out.go (by omega) hB
  have L39 : Hid (MidC (wo4.heap.size) (v1.heap.size) v3 (gap) ([5, 6]) (gcp)) := L30.out.go (by omega) hB
  have L40 : Hid (MidC (wo18.heap.size) (v2.heap.size) v3 (vaq) ([(2 : Int)]) (vcq)) := L33.out.go (by omega) hB
  have L41 : Hid (MidC (wo18.heap.size) (v2.heap.size) v3 (gaq) ([6, 7]) (gcq)) := L34.out.go (by omega) hB
  have hb42 : Hid (Below w.heap.size w v3) := hb32.out.trans (hB.mono hb32.out.size)
  have L43 : Hid (MidC (v2.heap.size) (v3.heap.size) v3 (f1) ([2]) (g1)) := hX0.midc
  have L44 : Hid (MidC (v2.heap.size) (v3.heap.size) v3 (f2) ([1, 2]) (g2)) := hY0.midc
  clear hB hb32 B27 B28 L29 L30 L33 L34 hX0 hY0
  clear L38 L39 L40 L41
  have n45 := Abx.new v3 (.bool false) (.slice f1 1 g1) (.slice f2 2 g2)
  have l46 := (n45).c0
  have l47 := (n45).c1
  have l48 := (n45).c2
  have n49 := lit_mid (v3.alloc (.cells #[.bool false, .slice f1 1 g1, .slice f2 2 g2] 24)) 3 [1, 2] 2 rfl
  simp only [World.size_alloc, List.map_cons, List.map_nil] at n49
  go_wp2_with fail
  obtain ⟨wo50, hwo50⟩ : ∃ wo50, wo50 = ((v3.alloc (.cells #[.bool false, .slice f1 1 g1, .slice f2 2 g2] 24)).alloc (.cells #[.int .i64 1, .int .i64 2] 3)) := ⟨_, rfl⟩
  rw [← hwo50]
  have z51 : v3.heap.size + 1 + 1 ≤ wo50.heap.size := by rw [hwo50]; simp only [World.size_alloc]; omega
  have B52 : Hid (Abx wo50 (w.heap.size) (.bool c1) (.slice sa1 sz1.length sc1) (.slice da1 dz1.length dc1)) := by rw [hwo50]; exact ((B36.out.al (.cells #[.bool false, .slice f1 1 g1, .slice f2 2 g2] 24)).al (.cells #[.int .i64 1, .int .i64 2] 3))
  have B53 : Hid (Abx wo50 (w.heap.size + 1) (.bool c2) (.slice sa2 sz2.length sc2) (.slice da2 dz2.length dc2)) := by rw [hwo50]; exact ((B37.out.al (.cells #[.bool false, .slice f1 1 g1, .slice f2 2 g2] 24)).al (.cells #[.int .i64 1, .int .i64 2] 3))
  have B54 : Hid (Abx wo50 (v3.heap.size) (.bool false) (.slice f1 1 g1) (.slice f2 2 g2)) := by rw [hwo50]; exact (n45.al (.cells #[.int .i64 1, .int .i64 2] 3))
  have L55 : Hid (MidC (v2.heap.size) (v3.heap.size) wo50 (f1) ([2]) (g1)) := by rw [hwo50]; exact ((L43.out.al (by omega) (.cells #[.bool false, .slice f1 1 g1, .slice f2 2 g2] 24)).al (by simp only [World.size_alloc]; omega) (.cells #[.int .i64 1, .int .i64 2] 3))
  have L56 : Hid (MidC (v2.heap.size) (v3.heap.size) wo50 (f2) ([1, 2]) (g2)) := by rw [hwo50]; exact ((L44.out.al (by omega) (.cells #[.bool false, .slice f1 1 g1, .slice f2 2 g2] 24)).al (by simp only [World.size_alloc]; omega) (.cells #[.int .i64 1, .int .i64 2] 3))
  have L57 : Hid (MidC (v3.heap.size + 1) (v3.heap.size + 1 + 1) wo50 (some ⟨v3.heap.size + 1, 0, none⟩) ([1, 2]) (2)) := by rw [hwo50]; exact n49
  have hb58 : Hid (Below w.heap.size w wo50) := by rw [hwo50]; exact ((hb42.out.alloc (by omega) (.cells #[.bool false, .slice f1 1 g1, .slice f2 2 g2] 24)).alloc (by simp only [World.size_alloc]; omega) (.cells #[.int .i64 1, .int .i64 2] 3))
  have zwo50 : w.heap.size ≤ wo50.heap.size := hb58.out.size
  clear hwo50 n45 l46 l47 l48 n49 hb42 B36 B37 L43 L44
  refine (ints_any f2 g2 [1, 2] (some ⟨v3.heap.size + 1, 0, none⟩) 2 [1, 2] (by simp) _ _ (L56.out.is (by omega)).1 (L57.out.is (by omega)).1).mono ?_
  rintro e v4 ⟨rfl, hB⟩
  have z59 : wo50.heap.size ≤ v4.heap.size := hB.size
  have B60 : Hid (Abx v4 (w.heap.size) (.bool c1) (.slice sa1 sz1.length sc1) (.slice da1 dz1.length dc1)) := B52.out.go hB
  have B61 : Hid (Abx v4 (w.heap.size + 1) (.bool c2) (.slice sa2 sz2.length sc2) (.slice da2 dz2.length dc2)) := B53.out.go hB
  have B62 : Hid (Abx v4 (v3.heap.size) (.bool false) (.slice f1 1 g1) (.slice f2 2 g2)) := B54.out.go hB
  have L63 : Hid (MidC (v2.heap.size) (v3.heap.size) v4 (f1) ([2]) (g1)) := L55.out.go (by omega) hB
  have L64 : Hid (MidC (v2.heap.size) (v3.heap.size) v4 (f2) ([1, 2]) (g2)) := L56.out.go (by omega) hB
  have L65 : Hid (MidC (v3.heap.size + 1) (v3.heap.size + 1 + 1) v4 (some ⟨v3.heap.size + 1, 0, none⟩) ([1, 2]) (2)) := L57.out.go (by omega) hB
  have hb66 : Hid (Below w.heap.size w v4) := hb58.out.trans (hB.mono hb58.out.size)
  clear hB hb58 B52 B53 B54 L55 L56 L57
  rw [eqB_true rfl]
  clear L63 L64 L65 B62
  have l67 := (B60.out).c0
  have l68 := (B60.out).c1
  have l69 := (B60.out).c2
  have l70 := (B61.out).c0
  have l71 := (B61.out).c1
  have l72 := (B61.out).c2
  go_wp2_with fail
  clear l67 l68 l69 l70 l71 l72
  refine (ix_ok c1 sa1 sc1 sz1 sz1.length rfl da1 dc1 dz1 c2 sa2 sc2 sz2 sz2.length rfl da2 dc2 dz2 _ x11 x12 x21 x22 ((HI1.out.1.1.below hb66.out).mono hb66.out.size) ((HI1.out.2.1.1.below hb66.out).mono hb66.out.size) ((HI2.out.1.1.below hb66.out).mono hb66.out.size) ((HI2.out.2.1.1.below hb66.out).mono hb66.out.size) HI1.out.2.2.2 HI2.out.2.2.2 sz2 X HIx ⟨HX.out.1, rfl, HX.out.2⟩).mono ?_
  rintro e v5 ⟨xa1, xc1, ya1, yc1, rfl, hX1, hY1, hB⟩
  have z73 : v4.heap.size ≤ v5.heap.size := hB.size
  have B74 : Hid (Abx v5 (w.heap.size) (.bool c1) (.slice sa1 sz1.length sc1) (.slice da1 dz1.length dc1)) := B60.out.go hB
  have B75 : Hid (Abx v5 (w.heap.size + 1) (.bool c2) (.slice sa2 sz2.length sc2) (.slice da2 dz2.length dc2)) := B61.out.go hB
  have hb76 : Hid (Below w.heap.size w v5) := hb66.out.trans (hB.mono hb66.out.size)
  have L77 : Hid (MidC (v4.heap.size) (v5.heap.size) v5 (xa1) (sz2) (xc1)) := hX1.midc
  have L78 : Hid (MidC (v4.heap.size) (v5.heap.size) v5 (ya1) (X) (yc1)) := hY1.midc
  clear hB hb66 B60 B61 hX1 hY1
  have n79 := Abx.new v5 (.bool false) (.slice xa1 sz2.length xc1) (.slice ya1 X.length yc1)
  have l80 := ((B75.out.al (.cells #[.bool false, .slice xa1 sz2.length xc1, .slice ya1 X.length yc1] 24))).c0
  have l81 := ((B75.out.al (.cells #[.bool false, .slice xa1 sz2.length xc1, .slice ya1 X.length yc1] 24))).c1
  have l82 := ((B75.out.al (.cells #[.bool false, .slice xa1 sz2.length xc1, .slice ya1 X.length yc1] 24))).c2
  have l83 := ((B74.out.al (.cells #[.bool false, .slice xa1 sz2.length xc1, .slice ya1 X.length yc1] 24))).c0
  have l84 := ((B74.out.al (.cells #[.bool false, .slice xa1 sz2.length xc1, .slice ya1 X.length yc1] 24))).c1
  have l85 := ((B74.out.al (.cells #[.bool false, .slice xa1 sz2.length xc1, .slice ya1 X.length yc1] 24))).c2
  go_wp2_with fail
  obtain ⟨wo86, hwo86⟩ : ∃ wo86, wo86 = (v5.alloc (.cells #[.bool false, .slice xa1 sz2.length xc1, .slice ya1 X.length yc1] 24)) := ⟨_, rfl⟩
  rw [← hwo86]
  have z87 : v5.heap.size + 1 ≤ wo86.heap.size := by rw [hwo86]; simp only [World.size_alloc]; omega
  have B88 : Hid (Abx wo86 (w.heap.size) (.bool c1) (.slice sa1 sz1.length sc1) (.slice da1 dz1.length dc1)) := by rw [hwo86]; exact (B74.out.al (.cells #[.bool false, .slice xa1 sz2.length xc1, .slice ya1 X.length yc1] 24))
  have B89 : Hid (Abx wo86 (w.heap.size + 1) (.bool c2) (.slice sa2 sz2.length sc2) (.slice da2 dz2.length dc2)) := by rw [hwo86]; exact (B75.out.al (.cells #[.bool false, .slice xa1 sz2.length xc1, .slice ya1 X.length yc1] 24))
  have B90 : Hid (Abx wo86 (v5.heap.size) (.bool false) (.slice xa1 sz2.length xc1) (.slice ya1 X.length yc1)) := by rw [hwo86]; exact n79
  have L91 : Hid (MidC (v4.heap.size) (v5.heap.size) wo86 (xa1) (sz2) (xc1)) := by rw [hwo86]; exact (L77.out.al (by omega) (.cells #[.bool false, .slice xa1 sz2.length xc1, .slice ya1 X.length yc1] 24))
  have L92 : Hid (MidC (v4.heap.size) (v5.heap.size) wo86 (ya1) (X) (yc1)) := by rw [hwo86]; exact (L78.out.al (by omega) (.cells #[.bool false, .slice xa1 sz2.length xc1, .slice ya1 X.length yc1] 24))
  have hb93 : Hid (Below w.heap.size w wo86) := by rw [hwo86]; exact (hb76.out.alloc (by omega) (.cells #[.bool false, .slice xa1 sz2.length xc1, .slice ya1 X.length yc1] 24))
  have zwo86 : w.heap.size ≤ wo86.heap.size := hb93.out.size
  clear hwo86 n79 l80 l81 l82 l83 l84 l85 hb76 B74 B75 L77 L78
  refine (in_ok c2 sa2 sc2 sz2 sz2.length rfl da2 dc2 dz2 c1 sa1 sc1 sz1 sz1.length rfl da1 dc1 dz1 _ x21 x22 x11 x12 ((HI2.out.1.1.below hb93.out).mono hb93.out.size) ((HI2.out.2.1.1.below hb93.out).mono hb93.out.size) ((HI1.out.1.1.below hb93.out).mono hb93.out.size) ((HI1.out.2.1.1.below hb93.out).mono hb93.out.size) HI2.out.2.2.2 HI1.out.2.2.2 sz2 N HIn ⟨HN.out.1, rfl, HN.out.2⟩).mono ?_
  rintro e v6 ⟨xa2, xc2, ya2, yc2, rfl, hX2, hY2, hB⟩
  have z94 : wo86.heap.size ≤ v6.heap.size := hB.size
  have B95 : Hid (Abx v6 (w.heap.size) (.bool c1) (.slice sa1 sz1.length sc1) (.slice da1 dz1.length dc1)) := B88.out.go hB
  have B96 : Hid (Abx v6 (w.heap.size + 1) (.bool c2) (.slice sa2 sz2.length sc2) (.slice da2 dz2.length dc2)) := B89.out.go hB
  have B97 : Hid (Abx v6 (v5.heap.size) (.bool false) (.slice xa1 sz2.length xc1) (.slice ya1 X.length yc1)) := B90.out.go hB
  have L98 : Hid (MidC (v4.heap.size) (v5.heap.size) v6 (xa1) (sz2) (xc1)) := L91.out.go (by omega) hB
  have L99 : Hid (MidC (v4.heap.size) (v5.heap.size) v6 (ya1) (X) (yc1)) := L92.out.go (by omega) hB
  have hb100 : Hid (Below w.heap.size w v6) := hb93.out.trans (hB.mono hb93.out.size)
  have L101 : Hid (MidC (wo86.heap.size) (v6.heap.size) v6 (xa2) (sz2) (xc2)) := hX2.midc
  have L102 : Hid (MidC (wo86.heap.size) (v6.heap.size) v6 (ya2) (N) (yc2)) := hY2.midc
  clear hB hb93 B88 B89 B90 L91 L92 hX2 hY2
  have n103 := Abx.new v6 (.bool false) (.slice xa2 sz2.length xc2) (.slice ya2 N.length yc2)
  have l104 := ((B97.out.al (.cells #[.bool false, .slice xa2 sz2.length xc2, .slice ya2 N.length yc2] 24))).c0
  have l105 := ((B97.out.al (.cells #[.bool false, .slice xa2 sz2.length xc2, .slice ya2 N.length yc2] 24))).c1
  have l106 := ((B97.out.al (.cells #[.bool false, .slice xa2 sz2.length xc2, .slice ya2 N.length yc2] 24))).c2
  have l107 := ((B96.out.al (.cells #[.bool false, .slice xa2 sz2.length xc2, .slice ya2 N.length yc2] 24))).c0
  have l108 := ((B96.out.al (.cells #[.bool false, .slice xa2 sz2.length xc2, .slice ya2 N.length yc2] 24))).c1
  have l109 := ((B96.out.al (.cells #[.bool false, .slice xa2 sz2.length xc2, .slice ya2 N.length yc2] 24))).c2
  go_wp2_with fail
  obtain ⟨wo110, hwo110⟩ : ∃ wo110, wo110 = (v6.alloc (.cells #[.bool false, .slice xa2 sz2.length xc2, .slice ya2 N.length yc2] 24)) := ⟨_, rfl⟩
  rw [← hwo110]
  have z111 : v6.heap.size + 1 ≤ wo110.heap.size := by rw [hwo110]; simp only [World.size_alloc]; omega
  have B112 : Hid (Abx wo110 (w.heap.size) (.bool c1) (.slice sa1 sz1.length sc1) (.slice da1 dz1.length dc1)) := by rw [hwo110]; exact (B95.out.al (.cells #[.bool false, .slice xa2 sz2.length xc2, .slice ya2 N.length yc2] 24))
  have B113 : Hid (Abx wo110 (w.heap.size + 1) (.bool c2) (.slice sa2 sz2.length sc2) (.slice da2 dz2.length dc2)) := by rw [hwo110]; exact (B96.out.al (.cells #[.bool false, .slice xa2 sz2.length xc2, .slice ya2 N.length yc2] 24))
  have B114 : Hid (Abx wo110 (v5.heap.size) (.bool false) (.slice xa1 sz2.length xc1) (.slice ya1 X.length yc1)) := by rw [hwo110]; exact (B97.out.al (.cells #[.bool false, .slice xa2 sz2.length xc2, .slice ya2 N.length yc2] 24))
  have B115 : Hid (Abx wo110 (v6.heap.size) (.bool false) (.slice xa2 sz2.length xc2) (.slice ya2 N.length yc2)) := by rw [hwo110]; exact n103
  have L116 : Hid (MidC (v4.heap.size) (v5.heap.size) wo110 (xa1) (sz2) (xc1)) := by rw [hwo110]; exact (L98.out.al (by omega) (.cells #[.bool false, .slice xa2 sz2.length xc2, .slice ya2 N.length yc2] 24))
  have L117 : Hid (MidC (v4.heap.size) (v5.heap.size) wo110 (ya1) (X) (yc1)) := by rw [hwo110]; exact (L99.out.al (by omega) (.cells #[.bool false, .slice xa2 sz2.length xc2, .slice ya2 N.length yc2] 24))
  have L118 : Hid (MidC (wo86.heap.size) (v6.heap.size) wo110 (xa2) (sz2) (xc2)) := by rw [hwo110]; exact (L101.out.al (by omega) (.cells #[.bool false, .slice xa2 sz2.length xc2, .slice ya2 N.length yc2] 24))
  have L119 : Hid (MidC (wo86.heap.size) (v6.heap.size) wo110 (ya2) (N) (yc2)) := by rw [hwo110]; exact (L102.out.al (by omega) (.cells #[.bool false, .slice xa2 sz2.length xc2, .slice ya2 N.length yc2] 24))
  have hb120 : Hid (Below w.heap.size w wo110) := by rw [hwo110]; exact (hb100.out.alloc (by omega) (.cells #[.bool false, .slice xa2 sz2.length xc2, .slice ya2 N.length yc2] 24))
  have zwo110 : w.heap.size ≤ wo110.heap.size := hb120.out.size
  clear hwo110 n103 l104 l105 l106 l107 l108 l109 hb100 B95 B96 B97 L98 L99 L101 L102
  refine (ints_any xa1 xc1 sz2 sa2 sc2 sz2 x21 _ _ (L116.out.is (by omega)).1 ((HI2.out.1.1.below hb120.out).mono hb120.out.size)).mono ?_
  rintro e v7 ⟨rfl, hB⟩
  have z121 : wo110.heap.size ≤ v7.heap.size := hB.size
  have B122 : Hid (Abx v7 (w.heap.size) (.bool c1) (.slice sa1 sz1.length sc1) (.slice da1 dz1.length dc1)) := B112.out.go hB
  have B123 : Hid (Abx v7 (w.heap.size + 1) (.bool c2) (.slice sa2 sz2.length sc2) (.slice da2 dz2.length dc2)) := B113.out.go hB
  have B124 : Hid (Abx v7 (v5.heap.size) (.bool false) (.slice xa1 sz2.length xc1) (.slice ya1 X.length yc1)) := B114.out.go hB
  have B125 : Hid (Abx v7 (v6.heap.size) (.bool false) (.slice xa2 sz2.length xc2) (.slice ya2 N.length yc2)) := B115.out.go hB
  have L126 : Hid (MidC (v4.heap.size) (v5.heap.size) v7 (xa1) (sz2) (xc1)) := L116.out.go (by omega) hB
  have L127 : Hid (MidC (v4.heap.size) (v5.heap.size) v7 (ya1) (X) (yc1)) := L117.out.go (by omega) hB
  have L128 : Hid (MidC (wo86.heap.size) (v6.heap.size) v7 (xa2) (sz2) (xc2)) := L118.out.go (by omega) hB
  have L129 : Hid (MidC (wo86.heap.size) (v6.heap.size) v7 (ya2) (N) (yc2)) := L119.out.go (by omega) hB
  have hb130 : Hid (Below w.heap.size w v7) := hb120.out.trans (hB.mono hb120.out.size)
  clear hB hb120 B112 B113 B114 B115 L116 L117 L118 L119
  rw [eqB_true rfl]
  have tl : ((X.length : Int) != (dz2.length : Int)) = false := by rw [HLn.out.1]; simp
  have tl2 : ((N.length : Int) != (dz2.length : Int)) = false := by rw [HLn.out.2]; simp
  have l131 := (B124.out).c0
  have l132 := (B124.out).c1
  have l133 := (B124.out).c2
  have l134 := (B123.out).c0
  have l135 := (B123.out).c1
  have l136 := (B123.out).c2
  have l137 := (B125.out).c0
  have l138 := (B125.out).c1
  have l139 := (B125.out).c2
  go_wp2_with fail
  clear l131 l132 l133 l134 l135 l136 l137 l138 l139 tl tl2
  have ca := B122.out.c2
  have ca0 := B122.out.c0
  have cb := B123.out.c2
  have cb0 := B123.out.c0
  have cx := B124.out.c2
  have ci := B125.out.c2
  have HLX : Hid (IsInts v7.heap.size v7 ya1 X) := (L127.out.is (by omega)).1
  have HLN : Hid (IsInts v7.heap.size v7 ya2 N) := (L129.out.is (by omega)).1
  have HL1 : Hid (IsInts v7.heap.size v7 da1 dz1) := ((HI1.out.2.1.1.below hb130.out).mono hb130.out.size)
  have HL2 : Hid (IsInts v7.heap.size v7 da2 dz2) := ((HI2.out.2.1.1.below hb130.out).mono hb130.out.size)
  go_loopw [13] (fun i wr => ∃ k m : Nat, k ≤ dz2.length ∧ i = .int .i64 k ∧ wr = v7.drewN m) (fun i _ => dz2.length - (intOf i).toNat)
  case atStart => exact ⟨0, 0, Nat.zero_le _, rfl, rfl⟩
  case round =>
    obtain ⟨k, m, hk, rfl, hv⟩ := hrel
    subst hv
    by_cases hlt : k < dz2.length
    · obtain ⟨A, hA⟩ : ∃ A, A = fdN c1 c2 (nth dz2 k) dz1 := ⟨_, rfl⟩
      have hA1 : A ≤ dz1.length := by rw [hA]; exact fdN_le dz1
      have HBE : Hid (∀ j, j < A → ¬ (c1 = c2 ∧ nth dz1 j = nth dz2 k)) := by rw [hA]; exact fdN_before dz1
      have hkX : k < X.length := by rw [HLn.out.1]; exact hlt
      have hkN : k < N.length := by rw [HLn.out.2]; exact hlt
      obtain ⟨bX, oX, rfl, _, hcX⟩ := HLX.out.at hkX
      have cX := hcX k hkX
      rw [HXF.out k hlt, ← hA] at cX
      have HA : Hid (A = fdN c1 c2 (nth dz2 k) dz1) := hA
      clear hA
      obtain ⟨bN, oN, rfl, _, hcN⟩ := HLN.out.at hkN
      have cN := hcN k hkN
      obtain ⟨b2, o2, p2, _, hc2⟩ := HL2.out.at hlt
      have c2k := hc2 k hlt
      subst p2
      have t1 : decide ((A : Int) < 0) = false := decide_eq_false (by omega)
      have t2 : decide ((A : Int) > (dz1.length : Int)) = false := decide_eq_false (by omega)
      clear hcX hcN hc2
      by_cases hf : A < dz1.length
      · have t3 : decide ((A : Int) < (dz1.length : Int)) = true := decide_eq_true (by omega)
        have hA := HA.out
        obtain ⟨h1, h2⟩ := fdN_at (c := c1) (ch := c2) (v := nth dz2 k) dz1 (by rw [← hA]; exact hf)
        rw [← hA] at h2
        have t4 : (nth N k == 1) = true := by rw [HNF.out k hlt, if_pos (fdN_lt.1 (by rw [← hA]; exact hf))]; rfl
        have t5 : (c1 == c2) = true := by simp [h1]
        have t6 : (nth dz1 A != nth dz2 k) = false := by simp [h2]
        obtain ⟨b1, o1, p1, _, hc1⟩ := HL1.out.at hf
        have c1A := hc1 A hf
        clear hc1 h1 h2 hA
        subst p1
        go_wp2_with fail
        go_quiet (fail)
        go_wp2_with fail
        go_quiet (fail)
        go_wp2_with fail
        clear t1 t2 t3 t4 cX cN t5 t6 c1A
        go_loopw [15] (fun j wr => ∃ l n : Nat, l ≤ A ∧ j = .int .i64 l ∧ wr = v7.drewN n) (fun j _ => A - (intOf j).toNat)
        case atStart => exact ⟨0, _, Nat.zero_le _, rfl, by first | rfl | (rw [World.drewN_drewN, World.drewN_drewN])⟩
        case round =>
          obtain ⟨l, n, hl, rfl, hv⟩ := hrel
          subst hv
          by_cases hll : l < A
          · have hl1 : l < dz1.length := by omega
            obtain ⟨q1, q2, qe, _, hc1⟩ := HL1.out.at hl1
            have cl := hc1 l hl1
            clear hc1
            cases qe
            by_cases hcc : c1 = c2
            · have tc : (c1 == c2) = true := by simp [hcc]
              have td : (nth dz1 l == nth dz2 k) = false := by have := HBE.out l hll; simp; exact fun e => this ⟨hcc, e⟩
              clear hcc
              go_wp2_with fail
              go_quiet (fail)
              go_wp2_with fail
              exact ⟨⟨l + 1, _, by omega, by go_num, rfl⟩, by simp [intOf]; omega⟩
            · have tc : (c1 == c2) = false := by simp [hcc]
              clear hcc
              go_wp2_with fail
              go_quiet (fail)
              go_wp2_with fail
              exact ⟨⟨l + 1, _, by omega, by go_num, rfl⟩, by simp [intOf]; omega⟩
          · obtain rfl : l = A := by omega
            go_wp2_with fail
            exact ⟨⟨k + 1, n, by omega, by go_num, rfl⟩, by simp [intOf]; omega⟩
      · have t3 : decide ((A : Int) < (dz1.length : Int)) = false := decide_eq_false (by omega)
        have t4 : (nth N k == 1) = false := by rw [HNF.out k hlt, if_neg (fun h => hf (by rw [HA.out]; exact fdN_lt.2 h))]; rfl
        go_wp2_with fail
        go_quiet (fail)
        go_wp2_with fail
        go_quiet (fail)
        go_wp2_with fail
        clear t1 t2 t3 t4 cX cN
        go_loopw [15] (fun j wr => ∃ l n : Nat, l ≤ A ∧ j = .int .i64 l ∧ wr = v7.drewN n) (fun j _ => A - (intOf j).toNat)
        case atStart => exact ⟨0, _, Nat.zero_le _, rfl, by first | rfl | (rw [World.drewN_drewN, World.drewN_drewN])⟩
        case round =>
          obtain ⟨l, n, hl, rfl, hv⟩ := hrel
          subst hv
          by_cases hll : l < A
          · have hl1 : l < dz1.length := by omega
            obtain ⟨q1, q2, qe, _, hc1⟩ := HL1.out.at hl1
            have cl := hc1 l hl1
            clear hc1
            cases qe
            by_cases hcc : c1 = c2
            · have tc : (c1 == c2) = true := by simp [hcc]
              have td : (nth dz1 l == nth dz2 k) = false := by have := HBE.out l hll; simp; exact fun e => this ⟨hcc, e⟩
              clear hcc
              go_wp2_with fail
              go_quiet (fail)
              go_wp2_with fail
              exact ⟨⟨l + 1, _, by omega, by go_num, rfl⟩, by simp [intOf]; omega⟩
            · have tc : (c1 == c2) = false := by simp [hcc]
              clear hcc
              go_wp2_with fail
              go_quiet (fail)
              go_wp2_with fail
              exact ⟨⟨l + 1, _, by omega, by go_num, rfl⟩, by simp [intOf]; omega⟩
          · obtain rfl : l = A := by omega
            go_wp2_with fail
            exact ⟨⟨k + 1, n, by omega, by go_num, rfl⟩, by simp [intOf]; omega⟩
    · obtain rfl : k = dz2.length := by omega
      go_wp2_with fail
      go_ret
      exact ⟨rfl, bel_drewN hb130.out _⟩
theorem sfound_walk (HIx : CIx) (HIn : CIn) (c1 : Bool) (sa1 : Option Addr) (sc1 : Nat) (sz1 : List Int) (da1 : Option Addr) (dc1 : Nat) (dz1 : List Int) (c2 : Bool) (sa2 : Option Addr) (sc2 : Nat) (sz2 : List Int) (da2 : Option Addr) (dc2 : Nat) (dz2 : List Int) (w : World) (w8 : IsArrD w sa1 sz1 sc1 da1 dz1 dc1) (w9 : IsArrD w sa2 sz2 sc2 da2 dz2 dc2) :
    Calls Try.prog 3 #[.agg #[.bool c1, .slice sa1 sz1.length sc1, .slice da1 dz1.length dc1], .agg #[.bool c2, .slice sa2 sz2.length sc2, .slice da2 dz2.length dc2]] w fun e w' => e = .returned (.bool true) ∧ Below w.heap.size w w' := by
  by_cases h1 : ixE c1 sz1 dz1 c2 sz2 dz2 = 0
  · exact found_ok HIx HIn c1 sa1 sc1 sz1 da1 dc1 dz1 c2 sa2 sc2 sz2 da2 dc2 dz2 w w8 w9 h1
  · exact found_no HIx HIn c1 sa1 sc1 sz1 da1 dc1 dz1 c2 sa2 sc2 sz2 da2 dc2 dz2 w w8 w9 h1
end Go.Proofs.Yteieliajdfbipaa
