/-
  The walk of the statement SeekMasks, given what the program tells.
-/
import Derived.Test.YteieliajdfbipabSekw
import Derived.Test.YteieliajdfbipabSekk
import Derived.Test.YteieliajdfbipabEachd
import Derived.Test.YteieliajdfbipabMidc
import Derived.Test.YteieliajdfbipabSarr
import Derived.Test.YteieliajdfbipabVec
namespace Go.Proofs.Yteieliajdfbipab
open Go.RowKit
set_option linter.unusedVariables false

theorem lit_all {xs : List Int} (h : xs.all (fun x => decide (-9223372036854775808 ≤ x ∧ x ≤ 9223372036854775807)) = true) : ∀ j, In64 (nth xs j) := fun j => by
  by_cases hj : j < xs.length
  · have : nth xs j ∈ xs := by simp [nth, hj]
    exact of_decide_eq_true (p := -9223372036854775808 ≤ nth xs j ∧ nth xs j ≤ 9223372036854775807) (List.all_eq_true.1 h _ this)
  · have : nth xs j = 0 := by simp [nth, List.getElem?_eq_none (Nat.le_of_not_lt hj)]
    rw [this]; unfold In64; decide
set_option maxRecDepth 100000 in
set_option maxHeartbeats 8000000 in
theorem masks_no (HIn : CIn) (HMt : CMt) (HWo : CWo) (HK : CKp) (H1 : C1c) (c1 : Bool) (sa1 : Option Addr) (sc1 : Nat) (sz1 : List Int) (da1 : Option Addr) (dc1 : Nat) (dz1 : List Int) (c2 : Bool) (sa2 : Option Addr) (sc2 : Nat) (sz2 : List Int) (da2 : Option Addr) (dc2 : Nat) (dz2 : List Int) (w : World) (w8 : IsArrD w sa1 sz1 sc1 da1 dz1 dc1) (w9 : IsArrD w sa2 sz2 sc2 da2 dz2 dc2) (F1 : Hid (lsE c1 sz1 dz1 c2 sz2 dz2 ≠ 0)) :
    Calls Try.prog 3 #[.agg #[.bool c1, .slice sa1 sz1.length sc1, .slice da1 dz1.length dc1], .agg #[.bool c2, .slice sa2 sz2.length sc2, .slice da2 dz2.length dc2]] w fun e w' => e = .returned (.bool true) ∧ Below w.heap.size w w' := by
  obtain ⟨x11, x12, x3, x4, s64, T⟩ := w8
  have HI1 : Hid (IsC w.heap.size w sa1 sz1 sc1 ∧ IsC w.heap.size w da1 dz1 dc1 ∧ (∀ j, In64 (nth sz1 j)) ∧ ∀ j, In64 (nth dz1 j)) := ⟨x3, x4, s64, T⟩
  clear x3 x4 T s64
  obtain ⟨x21, x22, x3, x4, s64, T⟩ := w9
  have HI2 : Hid (IsC w.heap.size w sa2 sz2 sc2 ∧ IsC w.heap.size w da2 dz2 dc2 ∧ (∀ j, In64 (nth sz2 j)) ∧ ∀ j, In64 (nth dz2 j)) := ⟨x3, x4, s64, T⟩
  clear x3 x4 T s64
  have n1 := Abx.new w (.bool c1) (.slice sa1 sz1.length sc1) (.slice da1 dz1.length dc1)
  have n2 := Abx.new (w.alloc (.cells #[.bool c1, .slice sa1 sz1.length sc1, .slice da1 dz1.length dc1] 24)) (.bool c2) (.slice sa2 sz2.length sc2) (.slice da2 dz2.length dc2)
  simp only [World.size_alloc] at n2
  have n3 := lit_mid ((w.alloc (.cells #[.bool c1, .slice sa1 sz1.length sc1, .slice da1 dz1.length dc1] 24)).alloc (.cells #[.bool c2, .slice sa2 sz2.length sc2, .slice da2 dz2.length dc2] 24)) 3 [5, 6] 2 rfl
  simp only [World.size_alloc, List.map_cons, List.map_nil] at n3
  go_enter Try.func3, Try.ntmps3
  go_wp2_with fail
  obtain ⟨wo4, hwo4⟩ : ∃ wo4, wo4 = (((w.alloc (.cells #[.bool c1, .slice sa1 sz1.length sc1, .slice da1 dz1.length dc1] 24)).alloc (.cells #[.bool c2, .slice sa2 sz2.length sc2, .slice da2 dz2.length dc2] 24)).alloc (.cells #[.int .i64 5, .int .i64 6] 3)) := ⟨_, rfl⟩
  rw [← hwo4]
  have z5 : w.heap.size + 1 + 1 + 1 ≤ wo4.heap.size := by rw [hwo4]; simp only [World.size_alloc]; omega
  have B6 : Hid (Abx wo4 (w.heap.size) (.bool c1) (.slice sa1 sz1.length sc1) (.slice da1 dz1.length dc1)) := by rw [hwo4]; exact ((n1.al (.cells #[.bool c2, .slice sa2 sz2.length sc2, .slice da2 dz2.length dc2] 24)).al (.cells #[.int .i64 5, .int .i64 6] 3))
  have B7 : Hid (Abx wo4 (w.heap.size + 1) (.bool c2) (.slice sa2 sz2.length sc2) (.slice da2 dz2.length dc2)) := by rw [hwo4]; exact (n2.al (.cells #[.int .i64 5, .int .i64 6] 3))
  have L8 : Hid (MidC (w.heap.size + 1 + 1) (w.heap.size + 1 + 1 + 1) wo4 (some ⟨w.heap.size + 1 + 1, 0, none⟩) ([5, 6]) (2)) := by rw [hwo4]; exact n3
  have hb9 : Hid (Below w.heap.size w wo4) := by rw [hwo4]; exact ((((Below.refl w.heap.size w).alloc (by omega) (.cells #[.bool c1, .slice sa1 sz1.length sc1, .slice da1 dz1.length dc1] 24)).alloc (by simp only [World.size_alloc]; omega) (.cells #[.bool c2, .slice sa2 sz2.length sc2, .slice da2 dz2.length dc2] 24)).alloc (by simp only [World.size_alloc]; omega) (.cells #[.int .i64 5, .int .i64 6] 3))
  have zwo4 : w.heap.size ≤ wo4.heap.size := hb9.out.size
  clear hwo4 n1 n2 n3
  refine (vec_c (some ⟨w.heap.size + 1 + 1, 0, none⟩) 2 [5, 6] (by simp) _ (L8.out.is (by omega)).1).mono ?_
  rintro e v1 ⟨vap, vcp, gap, gcp, rfl, hVp, hGp, hB⟩
  have z10 : wo4.heap.size ≤ v1.heap.size := hB.size
  have B11 : Hid (Abx v1 (w.heap.size) (.bool c1) (.slice sa1 sz1.length sc1) (.slice da1 dz1.length dc1)) := B6.out.go hB
  have B12 : Hid (Abx v1 (w.heap.size + 1) (.bool c2) (.slice sa2 sz2.length sc2) (.slice da2 dz2.length dc2)) := B7.out.go hB
  have L13 : Hid (MidC (w.heap.size + 1 + 1) (w.heap.size + 1 + 1 + 1) v1 (some ⟨w.heap.size + 1 + 1, 0, none⟩) ([5, 6]) (2)) := L8.out.go (by omega) hB
  have hb14 : Hid (Below w.heap.size w v1) := hb9.out.trans (hB.mono hb9.out.size)
  have L15 : Hid (MidC (wo4.heap.size) (v1.heap.size) v1 (vap) ([(2 : Int)]) (vcp)) := hVp.midc
  have L16 : Hid (MidC (wo4.heap.size) (v1.heap.size) v1 (gap) ([5, 6]) (gcp)) := hGp.midc
  clear hB hb9 B6 B7 L8 hVp hGp
  clear L13
  have n17 := lit_mid v1 3 [6, 7] 2 rfl
  simp only [List.map_cons, List.map_nil] at n17
  go_wp2_with fail
  obtain ⟨wo18, hwo18⟩ : ∃ wo18, wo18 = (v1.alloc (.cells #[.int .i64 6, .int .i64 7] 3)) := ⟨_, rfl⟩
  rw [← hwo18]
  have z19 : v1.heap.size + 1 ≤ wo18.heap.size := by rw [hwo18]; simp only [World.size_alloc]; omega
  have B20 : Hid (Abx wo18 (w.heap.size) (.bool c1) (.slice sa1 sz1.length sc1) (.slice da1 dz1.length dc1)) := by rw [hwo18]; exact (B11.out.al (.cells #[.int .i64 6, .int .i64 7] 3))
  have B21 : Hid (Abx wo18 (w.heap.size + 1) (.bool c2) (.slice sa2 sz2.length sc2) (.slice da2 dz2.length dc2)) := by rw [hwo18]; exact (B12.out.al (.cells #[.int .i64 6, .int .i64 7] 3))
  have L22 : Hid (MidC (wo4.heap.size) (v1.heap.size) wo18 (vap) ([(2 : Int)]) (vcp)) := by rw [hwo18]; exact (L15.out.al (by omega) (.cells #[.int .i64 6, .int .i64 7] 3))
  have L23 : Hid (MidC (wo4.heap.size) (v1.heap.size) wo18 (gap) ([5, 6]) (gcp)) := by rw [hwo18]; exact (L16.out.al (by omega) (.cells #[.int .i64 6, .int .i64 7] 3))
  have L24 : Hid (MidC (v1.heap.size) (v1.heap.size + 1) wo18 (some ⟨v1.heap.size, 0, none⟩) ([6, 7]) (2)) := by rw [hwo18]; exact n17
  have hb25 : Hid (Below w.heap.size w wo18) := by rw [hwo18]; exact (hb14.out.alloc (by omega) (.cells #[.int .i64 6, .int .i64 7] 3))
  have zwo18 : w.heap.size ≤ wo18.heap.size := hb25.out.size
  clear hwo18 n17 hb14 B11 B12 L15 L16
  refine (vec_c (some ⟨v1.heap.size, 0, none⟩) 2 [6, 7] (by simp) _ (L24.out.is (by omega)).1).mono ?_
  rintro e v2 ⟨vaq, vcq, gaq, gcq, rfl, hVq, hGq, hB⟩
  have z26 : wo18.heap.size ≤ v2.heap.size := hB.size
  have B27 : Hid (Abx v2 (w.heap.size) (.bool c1) (.slice sa1 sz1.length sc1) (.slice da1 dz1.length dc1)) := B20.out.go hB
  have B28 : Hid (Abx v2 (w.heap.size + 1) (.bool c2) (.slice sa2 sz2.length sc2) (.slice da2 dz2.length dc2)) := B21.out.go hB
  have L29 : Hid (MidC (wo4.heap.size) (v1.heap.size) v2 (vap) ([(2 : Int)]) (vcp)) := L22.out.go (by omega) hB
  have L30 : Hid (MidC (wo4.heap.size) (v1.heap.size) v2 (gap) ([5, 6]) (gcp)) := L23.out.go (by omega) hB
  have L31 : Hid (MidC (v1.heap.size) (v1.heap.size + 1) v2 (some ⟨v1.heap.size, 0, none⟩) ([6, 7]) (2)) := L24.out.go (by omega) hB
  have hb32 : Hid (Below w.heap.size w v2) := hb25.out.trans (hB.mono hb25.out.size)
  have L33 : Hid (MidC (wo18.heap.size) (v2.heap.size) v2 (vaq) ([(2 : Int)]) (vcq)) := hVq.midc
  have L34 : Hid (MidC (wo18.heap.size) (v2.heap.size) v2 (gaq) ([6, 7]) (gcq)) := hGq.midc
  clear hB hb25 B20 B21 L22 L23 L24 hVq hGq
  clear L31
  go_wp2_with fail
  refine (in_ok false vap vcp [(2 : Int)] 1 rfl gap gcp [5, 6] false vaq vcq [(2 : Int)] 1 rfl gaq gcq [6, 7] _ (by decide) (by simp) (by decide) (by simp) (L29.out.is (by omega)).1 (L30.out.is (by omega)).1 (L33.out.is (by omega)).1 (L34.out.is (by omega)).1 (lit_all (by decide)) (lit_all (by decide)) [2] [0, 1] HIn (by decide)).mono ?_
  rintro e v3 ⟨f1, g1, f2, g2, rfl, hX0, hY0, hB⟩
  have z35 : v2.heap.size ≤ v3.heap.size := hB.size
  have B36 : Hid (Abx v3 (w.heap.size) (.bool c1) (.slice sa1 sz1.length sc1) (.slice da1 dz1.length dc1)) := B27.out.go hB
  have B37 : Hid (Abx v3 (w.heap.size + 1) (.bool c2) (.slice sa2 sz2.length sc2) (.slice da2 dz2.length dc2)) := B28.out.go hB
  have L38 : Hid (MidC (wo4.heap.size) (v1.heap.size) v3 (vap) ([(2 : Int)]) (vcp)) := L29.out.go (by omega) hB
  have L39 : Hid (MidC (wo4.heap.size) (v1.heap.size) v3 (gap) ([5, 6]) (gcp)) := L30.out.go (by omega) hB
  have L40 : Hid (MidC (wo18.heap.size) (v2.heap.size) v3 (vaq) ([(2 : Int)]) (vcq)) := L33.out.go (by omega) hB
  have L41 : Hid (MidC (wo18.heap.size) (v2.heap.size) v3 (gaq) ([6, 7]) (gcq)) := L34.out.go (by omega) hB
  have hb42 : Hid (Below w.heap.size w v3) := hb32.out.trans (hB.mono hb32.out.size)
  have L43 : Hid (MidC (v2.heap.size) (v3.heap.size) v3 (f1) ([2]) (g1)) := hX0.midc
  have L44 : Hid (MidC (v2.heap.size) (v3.heap.size) v3 (f2) ([0, 1]) (g2)) := hY0.midc
  clear hB hb32 B27 B28 L29 L30 L33 L34 hX0 hY0
  clear L38 L39 L40 L41
  have n45 := Abx.new v3 (.bool false) (.slice f1 1 g1) (.slice f2 2 g2)
  have l46 := (n45).c0
  have l47 := (n45).c1
  have l48 := (n45).c2
  have n49 := lit_mid (v3.alloc (.cells #[.bool false, .slice f1 1 g1, .slice f2 2 g2] 24)) 3 [0, 1] 2 rfl
  simp only [World.size_alloc, List.map_cons, List.map_nil] at n49
  go_wp2_with fail
  obtain ⟨wo50, hwo50⟩ : ∃ wo50, wo50 = ((v3.alloc (.cells #[.bool false, .slice f1 1 g1, .slice f2 2 g2] 24)).alloc (.cells #[.int .i64 0, .int .i64 1] 3)) := ⟨_, rfl⟩
  rw [← hwo50]
  have z51 : v3.heap.size + 1 + 1 ≤ wo50.heap.size := by rw [hwo50]; simp only [World.size_alloc]; omega
  have B52 : Hid (Abx wo50 (w.heap.size) (.bool c1) (.slice sa1 sz1.length sc1) (.slice da1 dz1.length dc1)) := by rw [hwo50]; exact ((B36.out.al (.cells #[.bool false, .slice f1 1 g1, .slice f2 2 g2] 24)).al (.cells #[.int .i64 0, .int .i64 1] 3))
  have B53 : Hid (Abx wo50 (w.heap.size + 1) (.bool c2) (.slice sa2 sz2.length sc2) (.slice da2 dz2.length dc2)) := by rw [hwo50]; exact ((B37.out.al (.cells #[.bool false, .slice f1 1 g1, .slice f2 2 g2] 24)).al (.cells #[.int .i64 0, .int .i64 1] 3))
  have B54 : Hid (Abx wo50 (v3.heap.size) (.bool false) (.slice f1 1 g1) (.slice f2 2 g2)) := by rw [hwo50]; exact (n45.al (.cells #[.int .i64 0, .int .i64 1] 3))
  have L55 : Hid (MidC (v2.heap.size) (v3.heap.size) wo50 (f1) ([2]) (g1)) := by rw [hwo50]; exact ((L43.out.al (by omega) (.cells #[.bool false, .slice f1 1 g1, .slice f2 2 g2] 24)).al (by simp only [World.size_alloc]; omega) (.cells #[.int .i64 0, .int .i64 1] 3))
  have L56 : Hid (MidC (v2.heap.size) (v3.heap.size) wo50 (f2) ([0, 1]) (g2)) := by rw [hwo50]; exact ((L44.out.al (by omega) (.cells #[.bool false, .slice f1 1 g1, .slice f2 2 g2] 24)).al (by simp only [World.size_alloc]; omega) (.cells #[.int .i64 0, .int .i64 1] 3))
  have L57 : Hid (MidC (v3.heap.size + 1) (v3.heap.size + 1 + 1) wo50 (some ⟨v3.heap.size + 1, 0, none⟩) ([0, 1]) (2)) := by rw [hwo50]; exact n49
  have hb58 : Hid (Below w.heap.size w wo50) := by rw [hwo50]; exact ((hb42.out.alloc (by omega) (.cells #[.bool false, .slice f1 1 g1, .slice f2 2 g2] 24)).alloc (by simp only [World.size_alloc]; omega) (.cells #[.int .i64 0, .int .i64 1] 3))
  have zwo50 : w.heap.size ≤ wo50.heap.size := hb58.out.size
  clear hwo50 n45 l46 l47 l48 n49 hb42 B36 B37 L43 L44
  refine (ints_any f2 g2 [0, 1] (some ⟨v3.heap.size + 1, 0, none⟩) 2 [0, 1] (by simp) _ _ (L56.out.is (by omega)).1 (L57.out.is (by omega)).1).mono ?_
  rintro e v4 ⟨rfl, hB⟩
  have z59 : wo50.heap.size ≤ v4.heap.size := hB.size
  have B60 : Hid (Abx v4 (w.heap.size) (.bool c1) (.slice sa1 sz1.length sc1) (.slice da1 dz1.length dc1)) := B52.out.go hB
  have B61 : Hid (Abx v4 (w.heap.size + 1) (.bool c2) (.slice sa2 sz2.length sc2) (.slice da2 dz2.length dc2)) := B53.out.go hB
  have B62 : Hid (Abx v4 (v3.heap.size) (.bool false) (.slice f1 1 g1) (.slice f2 2 g2)) := B54.out.go hB
  have L63 : Hid (MidC (v2.heap.size) (v3.heap.size) v4 (f1) ([2]) (g1)) := L55.out.go (by omega) hB
  have L64 : Hid (MidC (v2.heap.size) (v3.heap.size) v4 (f2) ([0, 1]) (g2)) := L56.out.go (by omega) hB
  have L65 : Hid (MidC (v3.heap.size + 1) (v3.heap.size + 1 + 1) v4 (some ⟨v3.heap.size + 1, 0, none⟩) ([0, 1]) (2)) := L57.out.go (by omega) hB
  have hb66 : Hid (Below w.heap.size w v4) := hb58.out.trans (hB.mono hb58.out.size)
  clear hB hb58 B52 B53 B54 L55 L56 L57
  rw [eqB_true rfl]
  clear L63 L64 L65 B62
  have l67 := (B60.out).c0
  have l68 := (B60.out).c1
  have l69 := (B60.out).c2
  have l70 := (B61.out).c0
  have l71 := (B61.out).c1
  have l72 := (B61.out).c2
  go_wp2_with fail
  clear l67 l68 l69 l70 l71 l72
  refine (mt_no c1 sa1 sc1 sz1 sz1.length rfl da1 dc1 dz1 c2 sa2 sc2 sz2 sz2.length rfl da2 dc2 dz2 _ x11 x12 x21 x22 ((HI1.out.1.1.below hb66.out).mono hb66.out.size) ((HI1.out.2.1.1.below hb66.out).mono hb66.out.size) ((HI2.out.1.1.below hb66.out).mono hb66.out.size) ((HI2.out.2.1.1.below hb66.out).mono hb66.out.size) HI1.out.2.2.2 HI2.out.2.2.2 HMt F1.out).mono ?_
  rintro e v5 ⟨xa1, xc1, ya1, yc1, rfl, hB⟩
  have z73 : v4.heap.size ≤ v5.heap.size := hB.size
  have B74 : Hid (Abx v5 (w.heap.size) (.bool c1) (.slice sa1 sz1.length sc1) (.slice da1 dz1.length dc1)) := B60.out.go hB
  have B75 : Hid (Abx v5 (w.heap.size + 1) (.bool c2) (.slice sa2 sz2.length sc2) (.slice da2 dz2.length dc2)) := B61.out.go hB
  have hb76 : Hid (Below w.heap.size w v5) := hb66.out.trans (hB.mono hb66.out.size)
  clear hB hb66 B60 B61
  have n77 := Abx.new v5 (.bool false) (.slice xa1 0 xc1) (.slice ya1 0 yc1)
  have l78 := ((B74.out.al (.cells #[.bool false, .slice xa1 0 xc1, .slice ya1 0 yc1] 24))).c0
  have l79 := ((B74.out.al (.cells #[.bool false, .slice xa1 0 xc1, .slice ya1 0 yc1] 24))).c1
  have l80 := ((B74.out.al (.cells #[.bool false, .slice xa1 0 xc1, .slice ya1 0 yc1] 24))).c2
  have l81 := ((B75.out.al (.cells #[.bool false, .slice xa1 0 xc1, .slice ya1 0 yc1] 24))).c0
  have l82 := ((B75.out.al (.cells #[.bool false, .slice xa1 0 xc1, .slice ya1 0 yc1] 24))).c1
  have l83 := ((B75.out.al (.cells #[.bool false, .slice xa1 0 xc1, .slice ya1 0 yc1] 24))).c2
  go_wp2_with fail
  obtain ⟨wo84, hwo84⟩ : ∃ wo84, wo84 = (v5.alloc (.cells #[.bool false, .slice xa1 0 xc1, .slice ya1 0 yc1] 24)) := ⟨_, rfl⟩
  rw [← hwo84]
  have z85 : v5.heap.size + 1 ≤ wo84.heap.size := by rw [hwo84]; simp only [World.size_alloc]; omega
  have B86 : Hid (Abx wo84 (w.heap.size) (.bool c1) (.slice sa1 sz1.length sc1) (.slice da1 dz1.length dc1)) := by rw [hwo84]; exact (B74.out.al (.cells #[.bool false, .slice xa1 0 xc1, .slice ya1 0 yc1] 24))
  have B87 : Hid (Abx wo84 (w.heap.size + 1) (.bool c2) (.slice sa2 sz2.length sc2) (.slice da2 dz2.length dc2)) := by rw [hwo84]; exact (B75.out.al (.cells #[.bool false, .slice xa1 0 xc1, .slice ya1 0 yc1] 24))
  have B88 : Hid (Abx wo84 (v5.heap.size) (.bool false) (.slice xa1 0 xc1) (.slice ya1 0 yc1)) := by rw [hwo84]; exact n77
  have hb89 : Hid (Below w.heap.size w wo84) := by rw [hwo84]; exact (hb76.out.alloc (by omega) (.cells #[.bool false, .slice xa1 0 xc1, .slice ya1 0 yc1] 24))
  have zwo84 : w.heap.size ≤ wo84.heap.size := hb89.out.size
  clear hwo84 n77 l78 l79 l80 l81 l82 l83 hb76 B74 B75
  refine (wo_no c1 sa1 sc1 sz1 sz1.length rfl da1 dc1 dz1 c2 sa2 sc2 sz2 sz2.length rfl da2 dc2 dz2 _ x11 x12 x21 x22 ((HI1.out.1.1.below hb89.out).mono hb89.out.size) ((HI1.out.2.1.1.below hb89.out).mono hb89.out.size) ((HI2.out.1.1.below hb89.out).mono hb89.out.size) ((HI2.out.2.1.1.below hb89.out).mono hb89.out.size) HI1.out.2.2.2 HI2.out.2.2.2 HWo F1.out).mono ?_
  rintro e v6 ⟨xa2, xc2, ya2, yc2, rfl, hB⟩
  have z90 : wo84.heap.size ≤ v6.heap.size := hB.size
  have B91 : Hid (Abx v6 (w.heap.size) (.bool c1) (.slice sa1 sz1.length sc1) (.slice da1 dz1.length dc1)) := B86.out.go hB
  have B92 : Hid (Abx v6 (w.heap.size + 1) (.bool c2) (.slice sa2 sz2.length sc2) (.slice da2 dz2.length dc2)) := B87.out.go hB
  have B93 : Hid (Abx v6 (v5.heap.size) (.bool false) (.slice xa1 0 xc1) (.slice ya1 0 yc1)) := B88.out.go hB
  have hb94 : Hid (Below w.heap.size w v6) := hb89.out.trans (hB.mono hb89.out.size)
  clear hB hb89 B86 B87 B88
  have n95 := Abx.new v6 (.bool false) (.slice xa2 0 xc2) (.slice ya2 0 yc2)
  go_wp2_with fail
  obtain ⟨wo96, hwo96⟩ : ∃ wo96, wo96 = (v6.alloc (.cells #[.bool false, .slice xa2 0 xc2, .slice ya2 0 yc2] 24)) := ⟨_, rfl⟩
  rw [← hwo96]
  have z97 : v6.heap.size + 1 ≤ wo96.heap.size := by rw [hwo96]; simp only [World.size_alloc]; omega
  have B98 : Hid (Abx wo96 (w.heap.size) (.bool c1) (.slice sa1 sz1.length sc1) (.slice da1 dz1.length dc1)) := by rw [hwo96]; exact (B91.out.al (.cells #[.bool false, .slice xa2 0 xc2, .slice ya2 0 yc2] 24))
  have B99 : Hid (Abx wo96 (w.heap.size + 1) (.bool c2) (.slice sa2 sz2.length sc2) (.slice da2 dz2.length dc2)) := by rw [hwo96]; exact (B92.out.al (.cells #[.bool false, .slice xa2 0 xc2, .slice ya2 0 yc2] 24))
  have B100 : Hid (Abx wo96 (v5.heap.size) (.bool false) (.slice xa1 0 xc1) (.slice ya1 0 yc1)) := by rw [hwo96]; exact (B93.out.al (.cells #[.bool false, .slice xa2 0 xc2, .slice ya2 0 yc2] 24))
  have B101 : Hid (Abx wo96 (v6.heap.size) (.bool false) (.slice xa2 0 xc2) (.slice ya2 0 yc2)) := by rw [hwo96]; exact n95
  have hb102 : Hid (Below w.heap.size w wo96) := by rw [hwo96]; exact (hb94.out.alloc (by omega) (.cells #[.bool false, .slice xa2 0 xc2, .slice ya2 0 yc2] 24))
  have zwo96 : w.heap.size ≤ wo96.heap.size := hb102.out.size
  clear hwo96 n95 hb94 B91 B92 B93
  go_wp2_with fail
  go_ret
  exact ⟨rfl, hb102.out⟩
set_option maxRecDepth 100000 in
set_option maxHeartbeats 8000000 in
theorem masks_ok (HIn : CIn) (HMt : CMt) (HWo : CWo) (HK : CKp) (H1 : C1c) (c1 : Bool) (sa1 : Option Addr) (sc1 : Nat) (sz1 : List Int) (da1 : Option Addr) (dc1 : Nat) (dz1 : List Int) (c2 : Bool) (sa2 : Option Addr) (sc2 : Nat) (sz2 : List Int) (da2 : Option Addr) (dc2 : Nat) (dz2 : List Int) (w : World) (w8 : IsArrD w sa1 sz1 sc1 da1 dz1 dc1) (w9 : IsArrD w sa2 sz2 sc2 da2 dz2 dc2) (F1 : Hid (lsE c1 sz1 dz1 c2 sz2 dz2 = 0)) :
    Calls Try.prog 3 #[.agg #[.bool c1, .slice sa1 sz1.length sc1, .slice da1 dz1.length dc1], .agg #[.bool c2, .slice sa2 sz2.length sc2, .slice da2 dz2.length dc2]] w fun e w' => e = .returned (.bool true) ∧ Below w.heap.size w w' := by
  obtain ⟨fa, fb, la, lb⟩ := lsE_zero.1 F1.out
  have hd1 : dz1.length ≤ 4096 := (flawE_short fa).2
  obtain ⟨X, hX⟩ : ∃ X, X = shD c1 dz1 c2 dz2 true := ⟨_, rfl⟩
  obtain ⟨Y, hY⟩ : ∃ Y, Y = shD c1 dz1 c2 dz2 false := ⟨_, rfl⟩
  obtain ⟨M, hM⟩ : ∃ M, M = inD c1 dz1 c2 dz2 := ⟨_, rfl⟩
  obtain ⟨V, hV⟩ : ∃ V, V = e1V 17 M := ⟨_, rfl⟩
  have hXl : X.length ≤ 4096 := by rw [hX]; exact Nat.le_trans shD_le hd1
  have hYl : Y.length ≤ 4096 := by rw [hY]; exact Nat.le_trans shD_le hd1
  have hMl : M.length ≤ 4096 := by rw [hM, inD_length]; exact hd1
  have hVl : V.length ≤ 4096 := by rw [hV, e1V_length]; exact hMl
  have HX : Hid (lsE c1 sz1 dz1 c2 sz2 dz2 = 0 ∧ [((shD c1 dz1 c2 dz2 true).length : Int)] = [(X.length : Int)] ∧ shD c1 dz1 c2 dz2 true = X) := by rw [hX]; exact ⟨F1.out, rfl, rfl⟩
  have HY : Hid (lsE c1 sz1 dz1 c2 sz2 dz2 = 0 ∧ [((shD c1 dz1 c2 dz2 false).length : Int)] = [(Y.length : Int)] ∧ shD c1 dz1 c2 dz2 false = Y) := by rw [hY]; exact ⟨F1.out, rfl, rfl⟩
  have HM : Hid (flawsE c1 sz1 dz1 c2 sz2 dz2 = 0 ∧ inD c1 dz1 c2 dz2 = M) := ⟨flawsE_zero.2 ⟨fa, fb⟩, hM.symm⟩
  have HV : Hid (e1E 17 false sz1 M = 0 ∧ e1V 17 M = V) := ⟨not_err (by rw [hM]; exact in_flaw fa) (by rw [hM, inD_mk]; exact mkM_msk), hV.symm⟩
  have HKX : Hid (kpE M 0 c1 sz1 dz1 = 0 ∧ kpS M 0 sz1 = [(X.length : Int)] ∧ kpD M 0 sz1 dz1 = X) := by rw [hX, hM]; exact (masks_kp fa la).1
  have HKY : Hid (kpE V 0 c1 sz1 dz1 = 0 ∧ kpS V 0 sz1 = [(Y.length : Int)] ∧ kpD V 0 sz1 dz1 = Y) := by rw [hY, hV, hM]; exact (masks_kp fa la).2
  have HT : Hid ((∀ j, In64 (nth M j)) ∧ ∀ j, In64 (nth V j)) := by rw [hV]; exact ⟨by rw [hM]; exact inD_64, not_64 M⟩
  clear fa fb la lb hX hY hM hV
  obtain ⟨x11, x12, x3, x4, s64, T⟩ := w8
  have HI1 : Hid (IsC w.heap.size w sa1 sz1 sc1 ∧ IsC w.heap.size w da1 dz1 dc1 ∧ (∀ j, In64 (nth sz1 j)) ∧ ∀ j, In64 (nth dz1 j)) := ⟨x3, x4, s64, T⟩
  clear x3 x4 T s64
  obtain ⟨x21, x22, x3, x4, s64, T⟩ := w9
  have HI2 : Hid (IsC w.heap.size w sa2 sz2 sc2 ∧ IsC w.heap.size w da2 dz2 dc2 ∧ (∀ j, In64 (nth sz2 j)) ∧ ∀ j, In64 (nth dz2 j)) := ⟨x3, x4, s64, T⟩
  clear x3 x4 T s64
  have n1 := Abx.new w (.bool c1) (.slice sa1 sz1.length sc1) (.slice da1 dz1.length dc1)
  have n2 := Abx.new (w.alloc (.cells #[.bool c1, .slice sa1 sz1.length sc1, .slice da1 dz1.length dc1] 24)) (.bool c2) (.slice sa2 sz2.length sc2) (.slice da2 dz2.length dc2)
  simp only [World.size_alloc] at n2
  have n3 := lit_mid ((w.alloc (.cells #[.bool c1, .slice sa1 sz1.length sc1, .slice da1 dz1.length dc1] 24)).alloc (.cells #[.bool c2, .slice sa2 sz2.length sc2, .slice da2 dz2.length dc2] 24)) 3 [5, 6] 2 rfl
  simp only [World.size_alloc, List.map_cons, List.map_nil] at n3
  go_enter Try.func3, Try.ntmps3
  go_wp2_with fail
  obtain ⟨wo4, hwo4⟩ : ∃ wo4, wo4 = (((w.alloc (.cells #[.bool c1, .slice sa1 sz1.length sc1, .slice da1 dz1.length dc1] 24)).alloc (.cells #[.bool c2, .slice sa2 sz2.length sc2, .slice da2 dz2.length dc2] 24)).alloc (.cells #[.int .i64 5, .int .i64 6] 3)) := ⟨_, rfl⟩
  rw [← hwo4]
  have z5 : w.heap.size + 1 + 1 + 1 ≤ wo4.heap.size := by rw [hwo4]; simp only [World.size_alloc]; omega
  have B6 : Hid (Abx wo4 (w.heap.size) (.bool c1) (.slice sa1 sz1.length sc1) (.slice da1 dz1.length dc1)) := by rw [hwo4]; exact ((n1.al (.cells #[.bool c2, .slice sa2 sz2.length sc2, .slice da2 dz2.length dc2] 24)).al (.cells #[.int .i64 5, .int .i64 6] 3))
  have B7 : Hid (Abx wo4 (w.heap.size + 1) (.bool c2) (.slice sa2 sz2.length sc2) (.slice da2 dz2.length dc2)) := by rw [hwo4]; exact (n2.al (.cells #[.int .i64 5, .int .i64 6] 3))
  have L8 : Hid (MidC (w.heap.size + 1 + 1) (w.heap.size + 1 + 1 + 1) wo4 (some ⟨w.heap.size + 1 + 1, 0, none⟩) ([5, 6]) (2)) := by rw [hwo4]; exact n3
  have hb9 : Hid (Below w.heap.size w wo4) := by rw [hwo4]; exact ((((Below.refl w.heap.size w).alloc (by omega) (.cells #[.bool c1, .slice sa1 sz1.length sc1, .slice da1 dz1.length dc1] 24)).alloc (by simp only [World.size_alloc]; omega) (.cells #[.bool c2, .slice sa2 sz2.length sc2, .slice da2 dz2.length dc2] 24)).alloc (by simp only [World.size_alloc]; omega) (.cells #[.int .i64 5, .int .i64 6] 3))
  have zwo4 : w.heap.size ≤ wo4.heap.size := hb9.out.size
  clear hwo4 n1 n2 n3
  refine (vec_c (some ⟨w.heap.size + 1 + 1, 0, none⟩) 2 [5, 6] (by simp) _ (L8.out.is (by omega)).1).mono ?_
  rintro e v1 ⟨vap, vcp, gap, gcp, rfl, hVp, hGp, hB⟩
  have z10 : wo4.heap.size ≤ v1.heap.size := hB.size
  have B11 : Hid (Abx v1 (w.heap.size) (.bool c1) (.slice sa1 sz1.length sc1) (.slice da1 dz1.length dc1)) := B6.out.go hB
  have B12 : Hid (Abx v1 (w.heap.size + 1) (.bool c2) (.slice sa2 sz2.length sc2) (.slice da2 dz2.length dc2)) := B7.out.go hB
  have L13 : Hid (MidC (w.heap.size + 1 + 1) (w.heap.size + 1 + 1 + 1) v1 (some ⟨w.heap.size + 1 + 1, 0, none⟩) ([5, 6]) (2)) := L8.out.go (by omega) hB
  have hb14 : Hid (Below w.heap.size w v1) := hb9.out.trans (hB.mono hb9.out.size)
  have L15 : Hid (MidC (wo4.heap.size) (v1.heap.size) v1 (vap) ([(2 : Int)]) (vcp)) := hVp.midc
  have L16 : Hid (MidC (wo4.heap.size) (v1.heap.size) v1 (gap) ([5, 6]) (gcp)) := hGp.midc
  clear hB hb9 B6 B7 L8 hVp hGp
  clear L13
  have n17 := lit_mid v1 3 [6, 7] 2 rfl
  simp only [List.map_cons, List.map_nil] at n17
  go_wp2_with fail
  obtain ⟨wo18, hwo18⟩ : ∃ wo18, wo18 = (v1.alloc (.cells #[.int .i64 6, .int .i64 7] 3)) := ⟨_, rfl⟩
  rw [← hwo18]
  have z19 : v1.heap.size + 1 ≤ wo18.heap.size := by rw [hwo18]; simp only [World.size_alloc]; omega
  have B20 : Hid (Abx wo18 (w.heap.size) (.bool c1) (.slice sa1 sz1.length sc1) (.slice da1 dz1.length dc1)) := by rw [hwo18]; exact (B11.out.al (.cells #[.int .i64 6, .int .i64 7] 3))
  have B21 : Hid (Abx wo18 (w.heap.size + 1) (.bool c2) (.slice sa2 sz2.length sc2) (.slice da2 dz2.length dc2)) := by rw [hwo18]; exact (B12.out.al (.cells #[.int .i64 6, .int .i64 7] 3))
  have L22 : Hid (MidC (wo4.heap.size) (v1.heap.size) wo18 (vap) ([(2 : Int)]) (vcp)) := by rw [hwo18]; exact (L15.out.al (by omega) (.cells #[.int .i64 6, .int .i64 7] 3))
  have L23 : Hid (MidC (wo4.heap.size) (v1.heap.size) wo18 (gap) ([5, 6]) (gcp)) := by rw [hwo18]; exact (L16.out.al (by omega) (.cells #[.int .i64 6, .int .i64 7] 3))
  have L24 : Hid (MidC (v1.heap.size) (v1.heap.size + 1) wo18 (some ⟨v1.heap.size, 0, none⟩) ([6, 7]) (2)) := by rw [hwo18]; exact n17
  have hb25 : Hid (Below w.heap.size w wo18) := by rw [hwo18]; exact (hb14.out.alloc (by omega) (.cells #[.int .i64 6, .int .i64 7] 3))
  have zwo18 : w.heap.size ≤ wo18.heap.size := hb25.out.size
  clear hwo18 n17 hb14 B11 B12 L15 L16
  refine (vec_c (some ⟨v1.heap.size, 0, none⟩) 2 [6, 7] (by simp) _ (L24.out.is (by omega)).1).mono ?_
  rintro e v2 ⟨vaq, vcq, gaq, gcq, rfl, hVq, hGq, hB⟩
  have z26 : wo18.heap.size ≤ v2.heap.size := hB.size
  have B27 : Hid (Abx v2 (w.heap.size) (.bool c1) (.slice sa1 sz1.length sc1) (.slice da1 dz1.length dc1)) := B20.out.go hB
  have B28 : Hid (Abx v2 (w.heap.size + 1) (.bool c2) (.slice sa2 sz2.length sc2) (.slice da2 dz2.length dc2)) := B21.out.go hB
  have L29 : Hid (MidC (wo4.heap.size) (v1.heap.size) v2 (vap) ([(2 : Int)]) (vcp)) := L22.out.go (by omega) hB
  have L30 : Hid (MidC (wo4.heap.size) (v1.heap.size) v2 (gap) ([5, 6]) (gcp)) := L23.out.go (by omega) hB
  have L31 : Hid (MidC (v1.heap.size) (v1.heap.size + 1) v2 (some ⟨v1.heap.size, 0, none⟩) ([6, 7]) (2)) := L24.out.go (by omega) hB
  have hb32 : Hid (Below w.heap.size w v2) := hb25.out.trans (hB.mono hb25.out.size)
  have L33 : Hid (MidC (wo18.heap.size) (v2.heap.size) v2 (vaq) ([(2 : Int)]) (vcq)) := hVq.midc
  have L34 : Hid (MidC (wo18.heap.size) (v2.heap.size) v2 (gaq) ([6, 7]) (gcq)) := hGq.midc
  clear hB hb25 B20 B21 L22 L23 L24 hVq hGq
  clear L31
  go_wp2_with fail
  refine (in_ok false vap vcp [(2 : Int)] 1 rfl gap gcp [5, 6] false vaq vcq [(2 : Int)] 1 rfl gaq gcq [6, 7] _ (by decide) (by simp) (by decide) (by simp) (L29.out.is (by omega)).1 (L30.out.is (by omega)).1 (L33.out.is (by omega)).1 (L34.out.is (by omega)).1 (lit_all (by decide)) (lit_all (by decide)) [2] [0, 1] HIn (by decide)).mono ?_
  rintro e v3 ⟨f1, g1, f2, g2, rfl, hX0, hY0, hB⟩
  have z35 : v2.heap.size ≤ v3.heap.size := hB.size
  have B36 : Hid (Abx v3 (w.heap.size) (.bool c1) (.slice sa1 sz1.length sc1) (.slice da1 dz1.length dc1)) := B27.out.go hB
  have B37 : Hid (Abx v3 (w.heap.size + 1) (.bool c2) (.slice sa2 sz2.length sc2) (.slice da2 dz2.length dc2)) := B28.out.go hB
  have L38 : Hid (MidC (wo4.heap.size) (v1.heap.size) v3 (vap) ([(2 : Int)]) (vcp)) := L29.out.go (by omega) hB
  have L39 : Hid (MidC (wo4.heap.size) (v1.heap.size) v3 (gap) ([5, 6]) (gcp)) := L30.out.go (by omega) hB
  have L40 : Hid (MidC (wo18.heap.size) (v2.heap.size) v3 (vaq) ([(2 : Int)]) (vcq)) := L33.out.go (by omega) hB
  have L41 : Hid (MidC (wo18.heap.size) (v2.heap.size) v3 (gaq) ([6, 7]) (gcq)) := L34.out.go (by omega) hB
  have hb42 : Hid (Below w.heap.size w v3) := hb32.out.trans (hB.mono hb32.out.size)
  have L43 : Hid (MidC (v2.heap.size) (v3.heap.size) v3 (f1) ([2]) (g1)) := hX0.midc
  have L44 : Hid (MidC (v2.heap.size) (v3.heap.size) v3 (f2) ([0, 1]) (g2)) := hY0.midc
  clear hB hb32 B27 B28 L29 L30 L33 L34 hX0 hY0
  clear L38 L39 L40 L41
  have n45 := Abx.new v3 (.bool false) (.slice f1 1 g1) (.slice f2 2 g2)
  have l46 := (n45).c0
  have l47 := (n45).c1
  have l48 := (n45).c2
  have n49 := lit_mid (v3.alloc (.cells #[.bool false, .slice f1 1 g1, .slice f2 2 g2] 24)) 3 [0, 1] 2 rfl
  simp only [World.size_alloc, List.map_cons, List.map_nil] at n49
  go_wp2_with fail
  obtain ⟨wo50, hwo50⟩ : ∃ wo50, wo50 = ((v3.alloc (.cells #[.bool false, .slice f1 1 g1, .slice f2 2 g2] 24)).alloc (.cells #[.int .i64 0, .int .i64 1] 3)) := ⟨_, rfl⟩
  rw [← hwo50]
  have z51 : v3.heap.size + 1 + 1 ≤ wo50.heap.size := by rw [hwo50]; simp only [World.size_alloc]; omega
  have B52 : Hid (Abx wo50 (w.heap.size) (.bool c1) (.slice sa1 sz1.length sc1) (.slice da1 dz1.length dc1)) := by rw [hwo50]; exact ((B36.out.al (.cells #[.bool false, .slice f1 1 g1, .slice f2 2 g2] 24)).al (.cells #[.int .i64 0, .int .i64 1] 3))
  have B53 : Hid (Abx wo50 (w.heap.size + 1) (.bool c2) (.slice sa2 sz2.length sc2) (.slice da2 dz2.length dc2)) := by rw [hwo50]; exact ((B37.out.al (.cells #[.bool false, .slice f1 1 g1, .slice f2 2 g2] 24)).al (.cells #[.int .i64 0, .int .i64 1] 3))
  have B54 : Hid (Abx wo50 (v3.heap.size) (.bool false) (.slice f1 1 g1) (.slice f2 2 g2)) := by rw [hwo50]; exact (n45.al (.cells #[.int .i64 0, .int .i64 1] 3))
  have L55 : Hid (MidC (v2.heap.size) (v3.heap.size) wo50 (f1) ([2]) (g1)) := by rw [hwo50]; exact ((L43.out.al (by omega) (.cells #[.bool false, .slice f1 1 g1, .slice f2 2 g2] 24)).al (by simp only [World.size_alloc]; omega) (.cells #[.int .i64 0, .int .i64 1] 3))
  have L56 : Hid (MidC (v2.heap.size) (v3.heap.size) wo50 (f2) ([0, 1]) (g2)) := by rw [hwo50]; exact ((L44.out.al (by omega) (.cells #[.bool false, .slice f1 1 g1, .slice f2 2 g2] 24)).al (by simp only [World.size_alloc]; omega) (.cells #[.int .i64 0, .int .i64 1] 3))
  have L57 : Hid (MidC (v3.heap.size + 1) (v3.heap.size + 1 + 1) wo50 (some ⟨v3.heap.size + 1, 0, none⟩) ([0, 1]) (2)) := by rw [hwo50]; exact n49
  have hb58 : Hid (Below w.heap.size w wo50) := by rw [hwo50]; exact ((hb42.out.alloc (by omega) (.cells #[.bool false, .slice f1 1 g1, .slice f2 2 g2] 24)).alloc (by simp only [World.size_alloc]; omega) (.cells #[.int .i64 0, .int .i64 1] 3))
  have zwo50 : w.heap.size ≤ wo50.heap.size := hb58.out.size
  clear hwo50 n45 l46 l47 l48 n49 hb42 B36 B37 L43 L44
  refine (ints_any f2 g2 [0, 1] (some ⟨v3.heap.size + 1, 0, none⟩) 2 [0, 1] (by simp) _ _ (L56.out.is (by omega)).1 (L57.out.is (by omega)).1).mono ?_
  rintro e v4 ⟨rfl, hB⟩
  have z59 : wo50.heap.size ≤ v4.heap.size := hB.size
  have B60 : Hid (Abx v4 (w.heap.size) (.bool c1) (.slice sa1 sz1.length sc1) (.slice da1 dz1.length dc1)) := B52.out.go hB
  have B61 : Hid (Abx v4 (w.heap.size + 1) (.bool c2) (.slice sa2 sz2.length sc2) (.slice da2 dz2.length dc2)) := B53.out.go hB
  have B62 : Hid (Abx v4 (v3.heap.size) (.bool false) (.slice f1 1 g1) (.slice f2 2 g2)) := B54.out.go hB
  have L63 : Hid (MidC (v2.heap.size) (v3.heap.size) v4 (f1) ([2]) (g1)) := L55.out.go (by omega) hB
  have L64 : Hid (MidC (v2.heap.size) (v3.heap.size) v4 (f2) ([0, 1]) (g2)) := L56.out.go (by omega) hB
  have L65 : Hid (MidC (v3.heap.size + 1) (v3.heap.size + 1 + 1) v4 (some ⟨v3.heap.size + 1, 0, none⟩) ([0, 1]) (2)) := L57.out.go (by omega) hB
  have hb66 : Hid (Below w.heap.size w v4) := hb58.out.trans (hB.mono hb58.out.size)
  clear hB hb58 B52 B53 B54 L55 L56 L57
  rw [eqB_true rfl]
  clear L63 L64 L65 B62
  have l67 := (B60.out).c0
  have l68 := (B60.out).c1
  have l69 := (B60.out).c2
  have l70 := (B61.out).c0
  have l71 := (B61.out).c1
  have l72 := (B61.out).c2
  go_wp2_with fail
  clear l67 l68 l69 l70 l71 l72
  refine (mt_ok c1 sa1 sc1 sz1 sz1.length rfl da1 dc1 dz1 c2 sa2 sc2 sz2 sz2.length rfl da2 dc2 dz2 _ x11 x12 x21 x22 ((HI1.out.1.1.below hb66.out).mono hb66.out.size) ((HI1.out.2.1.1.below hb66.out).mono hb66.out.size) ((HI2.out.1.1.below hb66.out).mono hb66.out.size) ((HI2.out.2.1.1.below hb66.out).mono hb66.out.size) HI1.out.2.2.2 HI2.out.2.2.2 [(X.length : Int)] X HMt HX.out).mono ?_
  rintro e v5 ⟨xa1, xc1, ya1, yc1, rfl, hX1, hY1, hB⟩
  have z73 : v4.heap.size ≤ v5.heap.size := hB.size
  have B74 : Hid (Abx v5 (w.heap.size) (.bool c1) (.slice sa1 sz1.length sc1) (.slice da1 dz1.length dc1)) := B60.out.go hB
  have B75 : Hid (Abx v5 (w.heap.size + 1) (.bool c2) (.slice sa2 sz2.length sc2) (.slice da2 dz2.length dc2)) := B61.out.go hB
  have hb76 : Hid (Below w.heap.size w v5) := hb66.out.trans (hB.mono hb66.out.size)
  have L77 : Hid (MidC (v4.heap.size) (v5.heap.size) v5 (xa1) ([(X.length : Int)]) (xc1)) := hX1.midc
  have L78 : Hid (MidC (v4.heap.size) (v5.heap.size) v5 (ya1) (X) (yc1)) := hY1.midc
  clear hB hb66 B60 B61 hX1 hY1
  have n79 := Abx.new v5 (.bool c1) (.slice xa1 1 xc1) (.slice ya1 X.length yc1)
  have l80 := ((B74.out.al (.cells #[.bool c1, .slice xa1 1 xc1, .slice ya1 X.length yc1] 24))).c0
  have l81 := ((B74.out.al (.cells #[.bool c1, .slice xa1 1 xc1, .slice ya1 X.length yc1] 24))).c1
  have l82 := ((B74.out.al (.cells #[.bool c1, .slice xa1 1 xc1, .slice ya1 X.length yc1] 24))).c2
  have l83 := ((B75.out.al (.cells #[.bool c1, .slice xa1 1 xc1, .slice ya1 X.length yc1] 24))).c0
  have l84 := ((B75.out.al (.cells #[.bool c1, .slice xa1 1 xc1, .slice ya1 X.length yc1] 24))).c1
  have l85 := ((B75.out.al (.cells #[.bool c1, .slice xa1 1 xc1, .slice ya1 X.length yc1] 24))).c2
  go_wp2_with fail
  obtain ⟨wo86, hwo86⟩ : ∃ wo86, wo86 = (v5.alloc (.cells #[.bool c1, .slice xa1 1 xc1, .slice ya1 X.length yc1] 24)) := ⟨_, rfl⟩
  rw [← hwo86]
  have z87 : v5.heap.size + 1 ≤ wo86.heap.size := by rw [hwo86]; simp only [World.size_alloc]; omega
  have B88 : Hid (Abx wo86 (w.heap.size) (.bool c1) (.slice sa1 sz1.length sc1) (.slice da1 dz1.length dc1)) := by rw [hwo86]; exact (B74.out.al (.cells #[.bool c1, .slice xa1 1 xc1, .slice ya1 X.length yc1] 24))
  have B89 : Hid (Abx wo86 (w.heap.size + 1) (.bool c2) (.slice sa2 sz2.length sc2) (.slice da2 dz2.length dc2)) := by rw [hwo86]; exact (B75.out.al (.cells #[.bool c1, .slice xa1 1 xc1, .slice ya1 X.length yc1] 24))
  have B90 : Hid (Abx wo86 (v5.heap.size) (.bool c1) (.slice xa1 1 xc1) (.slice ya1 X.length yc1)) := by rw [hwo86]; exact n79
  have L91 : Hid (MidC (v4.heap.size) (v5.heap.size) wo86 (xa1) ([(X.length : Int)]) (xc1)) := by rw [hwo86]; exact (L77.out.al (by omega) (.cells #[.bool c1, .slice xa1 1 xc1, .slice ya1 X.length yc1] 24))
  have L92 : Hid (MidC (v4.heap.size) (v5.heap.size) wo86 (ya1) (X) (yc1)) := by rw [hwo86]; exact (L78.out.al (by omega) (.cells #[.bool c1, .slice xa1 1 xc1, .slice ya1 X.length yc1] 24))
  have hb93 : Hid (Below w.heap.size w wo86) := by rw [hwo86]; exact (hb76.out.alloc (by omega) (.cells #[.bool c1, .slice xa1 1 xc1, .slice ya1 X.length yc1] 24))
  have zwo86 : w.heap.size ≤ wo86.heap.size := hb93.out.size
  clear hwo86 n79 l80 l81 l82 l83 l84 l85 hb76 B74 B75 L77 L78
  refine (wo_ok c1 sa1 sc1 sz1 sz1.length rfl da1 dc1 dz1 c2 sa2 sc2 sz2 sz2.length rfl da2 dc2 dz2 _ x11 x12 x21 x22 ((HI1.out.1.1.below hb93.out).mono hb93.out.size) ((HI1.out.2.1.1.below hb93.out).mono hb93.out.size) ((HI2.out.1.1.below hb93.out).mono hb93.out.size) ((HI2.out.2.1.1.below hb93.out).mono hb93.out.size) HI1.out.2.2.2 HI2.out.2.2.2 [(Y.length : Int)] Y HWo HY.out).mono ?_
  rintro e v6 ⟨xa2, xc2, ya2, yc2, rfl, hX2, hY2, hB⟩
  have z94 : wo86.heap.size ≤ v6.heap.size := hB.size
  have B95 : Hid (Abx v6 (w.heap.size) (.bool c1) (.slice sa1 sz1.length sc1) (.slice da1 dz1.length dc1)) := B88.out.go hB
  have B96 : Hid (Abx v6 (w.heap.size + 1) (.bool c2) (.slice sa2 sz2.length sc2) (.slice da2 dz2.length dc2)) := B89.out.go hB
  have B97 : Hid (Abx v6 (v5.heap.size) (.bool c1) (.slice xa1 1 xc1) (.slice ya1 X.length yc1)) := B90.out.go hB
  have L98 : Hid (MidC (v4.heap.size) (v5.heap.size) v6 (xa1) ([(X.length : Int)]) (xc1)) := L91.out.go (by omega) hB
  have L99 : Hid (MidC (v4.heap.size) (v5.heap.size) v6 (ya1) (X) (yc1)) := L92.out.go (by omega) hB
  have hb100 : Hid (Below w.heap.size w v6) := hb93.out.trans (hB.mono hb93.out.size)
  have L101 : Hid (MidC (wo86.heap.size) (v6.heap.size) v6 (xa2) ([(Y.length : Int)]) (xc2)) := hX2.midc
  have L102 : Hid (MidC (wo86.heap.size) (v6.heap.size) v6 (ya2) (Y) (yc2)) := hY2.midc
  clear hB hb93 B88 B89 B90 L91 L92 hX2 hY2
  have n103 := Abx.new v6 (.bool c1) (.slice xa2 1 xc2) (.slice ya2 Y.length yc2)
  have l104 := ((B95.out.al (.cells #[.bool c1, .slice xa2 1 xc2, .slice ya2 Y.length yc2] 24))).c0
  have l105 := ((B95.out.al (.cells #[.bool c1, .slice xa2 1 xc2, .slice ya2 Y.length yc2] 24))).c1
  have l106 := ((B95.out.al (.cells #[.bool c1, .slice xa2 1 xc2, .slice ya2 Y.length yc2] 24))).c2
  have l107 := ((B96.out.al (.cells #[.bool c1, .slice xa2 1 xc2, .slice ya2 Y.length yc2] 24))).c0
  have l108 := ((B96.out.al (.cells #[.bool c1, .slice xa2 1 xc2, .slice ya2 Y.length yc2] 24))).c1
  have l109 := ((B96.out.al (.cells #[.bool c1, .slice xa2 1 xc2, .slice ya2 Y.length yc2] 24))).c2
  go_wp2_with fail
  obtain ⟨wo110, hwo110⟩ : ∃ wo110, wo110 = (v6.alloc (.cells #[.bool c1, .slice xa2 1 xc2, .slice ya2 Y.length yc2] 24)) := ⟨_, rfl⟩
  rw [← hwo110]
  have z111 : v6.heap.size + 1 ≤ wo110.heap.size := by rw [hwo110]; simp only [World.size_alloc]; omega
  have B112 : Hid (Abx wo110 (w.heap.size) (.bool c1) (.slice sa1 sz1.length sc1) (.slice da1 dz1.length dc1)) := by rw [hwo110]; exact (B95.out.al (.cells #[.bool c1, .slice xa2 1 xc2, .slice ya2 Y.length yc2] 24))
  have B113 : Hid (Abx wo110 (w.heap.size + 1) (.bool c2) (.slice sa2 sz2.length sc2) (.slice da2 dz2.length dc2)) := by rw [hwo110]; exact (B96.out.al (.cells #[.bool c1, .slice xa2 1 xc2, .slice ya2 Y.length yc2] 24))
  have B114 : Hid (Abx wo110 (v5.heap.size) (.bool c1) (.slice xa1 1 xc1) (.slice ya1 X.length yc1)) := by rw [hwo110]; exact (B97.out.al (.cells #[.bool c1, .slice xa2 1 xc2, .slice ya2 Y.length yc2] 24))
  have B115 : Hid (Abx wo110 (v6.heap.size) (.bool c1) (.slice xa2 1 xc2) (.slice ya2 Y.length yc2)) := by rw [hwo110]; exact n103
  have L116 : Hid (MidC (v4.heap.size) (v5.heap.size) wo110 (xa1) ([(X.length : Int)]) (xc1)) := by rw [hwo110]; exact (L98.out.al (by omega) (.cells #[.bool c1, .slice xa2 1 xc2, .slice ya2 Y.length yc2] 24))
  have L117 : Hid (MidC (v4.heap.size) (v5.heap.size) wo110 (ya1) (X) (yc1)) := by rw [hwo110]; exact (L99.out.al (by omega) (.cells #[.bool c1, .slice xa2 1 xc2, .slice ya2 Y.length yc2] 24))
  have L118 : Hid (MidC (wo86.heap.size) (v6.heap.size) wo110 (xa2) ([(Y.length : Int)]) (xc2)) := by rw [hwo110]; exact (L101.out.al (by omega) (.cells #[.bool c1, .slice xa2 1 xc2, .slice ya2 Y.length yc2] 24))
  have L119 : Hid (MidC (wo86.heap.size) (v6.heap.size) wo110 (ya2) (Y) (yc2)) := by rw [hwo110]; exact (L102.out.al (by omega) (.cells #[.bool c1, .slice xa2 1 xc2, .slice ya2 Y.length yc2] 24))
  have hb120 : Hid (Below w.heap.size w wo110) := by rw [hwo110]; exact (hb100.out.alloc (by omega) (.cells #[.bool c1, .slice xa2 1 xc2, .slice ya2 Y.length yc2] 24))
  have zwo110 : w.heap.size ≤ wo110.heap.size := hb120.out.size
  clear hwo110 n103 l104 l105 l106 l107 l108 l109 hb100 B95 B96 B97 L98 L99 L101 L102
  refine (in_ok c1 sa1 sc1 sz1 sz1.length rfl da1 dc1 dz1 c2 sa2 sc2 sz2 sz2.length rfl da2 dc2 dz2 _ x11 x12 x21 x22 ((HI1.out.1.1.below hb120.out).mono hb120.out.size) ((HI1.out.2.1.1.below hb120.out).mono hb120.out.size) ((HI2.out.1.1.below hb120.out).mono hb120.out.size) ((HI2.out.2.1.1.below hb120.out).mono hb120.out.size) HI1.out.2.2.2 HI2.out.2.2.2 sz1 M HIn ⟨HM.out.1, rfl, HM.out.2⟩).mono ?_
  rintro e v7 ⟨xa3, xc3, ya3, yc3, rfl, hX3, hY3, hB⟩
  have z121 : wo110.heap.size ≤ v7.heap.size := hB.size
  have B122 : Hid (Abx v7 (w.heap.size) (.bool c1) (.slice sa1 sz1.length sc1) (.slice da1 dz1.length dc1)) := B112.out.go hB
  have B123 : Hid (Abx v7 (w.heap.size + 1) (.bool c2) (.slice sa2 sz2.length sc2) (.slice da2 dz2.length dc2)) := B113.out.go hB
  have B124 : Hid (Abx v7 (v5.heap.size) (.bool c1) (.slice xa1 1 xc1) (.slice ya1 X.length yc1)) := B114.out.go hB
  have B125 : Hid (Abx v7 (v6.heap.size) (.bool c1) (.slice xa2 1 xc2) (.slice ya2 Y.length yc2)) := B115.out.go hB
  have L126 : Hid (MidC (v4.heap.size) (v5.heap.size) v7 (xa1) ([(X.length : Int)]) (xc1)) := L116.out.go (by omega) hB
  have L127 : Hid (MidC (v4.heap.size) (v5.heap.size) v7 (ya1) (X) (yc1)) := L117.out.go (by omega) hB
  have L128 : Hid (MidC (wo86.heap.size) (v6.heap.size) v7 (xa2) ([(Y.length : Int)]) (xc2)) := L118.out.go (by omega) hB
  have L129 : Hid (MidC (wo86.heap.size) (v6.heap.size) v7 (ya2) (Y) (yc2)) := L119.out.go (by omega) hB
  have hb130 : Hid (Below w.heap.size w v7) := hb120.out.trans (hB.mono hb120.out.size)
  have L131 : Hid (MidC (wo110.heap.size) (v7.heap.size) v7 (xa3) (sz1) (xc3)) := hX3.midc
  have L132 : Hid (MidC (wo110.heap.size) (v7.heap.size) v7 (ya3) (M) (yc3)) := hY3.midc
  clear hB hb120 B112 B113 B114 B115 L116 L117 L118 L119 hX3 hY3
  have n133 := Abx.new v7 (.bool false) (.slice xa3 sz1.length xc3) (.slice ya3 M.length yc3)
  have l134 := (n133).c0
  have l135 := (n133).c1
  have l136 := (n133).c2
  have l137 := ((B122.out.al (.cells #[.bool false, .slice xa3 sz1.length xc3, .slice ya3 M.length yc3] 24))).c0
  have l138 := ((B122.out.al (.cells #[.bool false, .slice xa3 sz1.length xc3, .slice ya3 M.length yc3] 24))).c1
  have l139 := ((B122.out.al (.cells #[.bool false, .slice xa3 sz1.length xc3, .slice ya3 M.length yc3] 24))).c2
  go_wp2_with fail
  obtain ⟨wo140, hwo140⟩ : ∃ wo140, wo140 = (v7.alloc (.cells #[.bool false, .slice xa3 sz1.length xc3, .slice ya3 M.length yc3] 24)) := ⟨_, rfl⟩
  rw [← hwo140]
  have z141 : v7.heap.size + 1 ≤ wo140.heap.size := by rw [hwo140]; simp only [World.size_alloc]; omega
  have B142 : Hid (Abx wo140 (w.heap.size) (.bool c1) (.slice sa1 sz1.length sc1) (.slice da1 dz1.length dc1)) := by rw [hwo140]; exact (B122.out.al (.cells #[.bool false, .slice xa3 sz1.length xc3, .slice ya3 M.length yc3] 24))
  have B143 : Hid (Abx wo140 (w.heap.size + 1) (.bool c2) (.slice sa2 sz2.length sc2) (.slice da2 dz2.length dc2)) := by rw [hwo140]; exact (B123.out.al (.cells #[.bool false, .slice xa3 sz1.length xc3, .slice ya3 M.length yc3] 24))
  have B144 : Hid (Abx wo140 (v5.heap.size) (.bool c1) (.slice xa1 1 xc1) (.slice ya1 X.length yc1)) := by rw [hwo140]; exact (B124.out.al (.cells #[.bool false, .slice xa3 sz1.length xc3, .slice ya3 M.length yc3] 24))
  have B145 : Hid (Abx wo140 (v6.heap.size) (.bool c1) (.slice xa2 1 xc2) (.slice ya2 Y.length yc2)) := by rw [hwo140]; exact (B125.out.al (.cells #[.bool false, .slice xa3 sz1.length xc3, .slice ya3 M.length yc3] 24))
  have B146 : Hid (Abx wo140 (v7.heap.size) (.bool false) (.slice xa3 sz1.length xc3) (.slice ya3 M.length yc3)) := by rw [hwo140]; exact n133
  have L147 : Hid (MidC (v4.heap.size) (v5.heap.size) wo140 (xa1) ([(X.length : Int)]) (xc1)) := by rw [hwo140]; exact (L126.out.al (by omega) (.cells #[.bool false, .slice xa3 sz1.length xc3, .slice ya3 M.length yc3] 24))
  have L148 : Hid (MidC (v4.heap.size) (v5.heap.size) wo140 (ya1) (X) (yc1)) := by rw [hwo140]; exact (L127.out.al (by omega) (.cells #[.bool false, .slice xa3 sz1.length xc3, .slice ya3 M.length yc3] 24))
  have L149 : Hid (MidC (wo86.heap.size) (v6.heap.size) wo140 (xa2) ([(Y.length : Int)]) (xc2)) := by rw [hwo140]; exact (L128.out.al (by omega) (.cells #[.bool false, .slice xa3 sz1.length xc3, .slice ya3 M.length yc3] 24))
  have L150 : Hid (MidC (wo86.heap.size) (v6.heap.size) wo140 (ya2) (Y) (yc2)) := by rw [hwo140]; exact (L129.out.al (by omega) (.cells #[.bool false, .slice xa3 sz1.length xc3, .slice ya3 M.length yc3] 24))
  have L151 : Hid (MidC (wo110.heap.size) (v7.heap.size) wo140 (xa3) (sz1) (xc3)) := by rw [hwo140]; exact (L131.out.al (by omega) (.cells #[.bool false, .slice xa3 sz1.length xc3, .slice ya3 M.length yc3] 24))
  have L152 : Hid (MidC (wo110.heap.size) (v7.heap.size) wo140 (ya3) (M) (yc3)) := by rw [hwo140]; exact (L132.out.al (by omega) (.cells #[.bool false, .slice xa3 sz1.length xc3, .slice ya3 M.length yc3] 24))
  have hb153 : Hid (Below w.heap.size w wo140) := by rw [hwo140]; exact (hb130.out.alloc (by omega) (.cells #[.bool false, .slice xa3 sz1.length xc3, .slice ya3 M.length yc3] 24))
  have zwo140 : w.heap.size ≤ wo140.heap.size := hb153.out.size
  clear hwo140 n133 l134 l135 l136 l137 l138 l139 hb130 B122 B123 B124 B125 L126 L127 L128 L129 L131 L132
  refine (kp_ok ya3 yc3 M 0 (by unfold In64; decide) c1 sa1 sc1 sz1 da1 dc1 dz1 _ (by omega) HT.out.1 (L152.out.is (by omega)) x11 x12 ((HI1.out.1.below hb153.out).mono hb153.out.size) ((HI1.out.2.1.below hb153.out).mono hb153.out.size) HI1.out.2.2.2 [(X.length : Int)] X HK HKX.out).mono ?_
  rintro e v8 ⟨xa4, xc4, ya4, yc4, rfl, hX4, hY4, hB⟩
  have z154 : wo140.heap.size ≤ v8.heap.size := hB.size
  have B155 : Hid (Abx v8 (w.heap.size) (.bool c1) (.slice sa1 sz1.length sc1) (.slice da1 dz1.length dc1)) := B142.out.go hB
  have B156 : Hid (Abx v8 (w.heap.size + 1) (.bool c2) (.slice sa2 sz2.length sc2) (.slice da2 dz2.length dc2)) := B143.out.go hB
  have B157 : Hid (Abx v8 (v5.heap.size) (.bool c1) (.slice xa1 1 xc1) (.slice ya1 X.length yc1)) := B144.out.go hB
  have B158 : Hid (Abx v8 (v6.heap.size) (.bool c1) (.slice xa2 1 xc2) (.slice ya2 Y.length yc2)) := B145.out.go hB
  have B159 : Hid (Abx v8 (v7.heap.size) (.bool false) (.slice xa3 sz1.length xc3) (.slice ya3 M.length yc3)) := B146.out.go hB
  have L160 : Hid (MidC (v4.heap.size) (v5.heap.size) v8 (xa1) ([(X.length : Int)]) (xc1)) := L147.out.go (by omega) hB
  have L161 : Hid (MidC (v4.heap.size) (v5.heap.size) v8 (ya1) (X) (yc1)) := L148.out.go (by omega) hB
  have L162 : Hid (MidC (wo86.heap.size) (v6.heap.size) v8 (xa2) ([(Y.length : Int)]) (xc2)) := L149.out.go (by omega) hB
  have L163 : Hid (MidC (wo86.heap.size) (v6.heap.size) v8 (ya2) (Y) (yc2)) := L150.out.go (by omega) hB
  have L164 : Hid (MidC (wo110.heap.size) (v7.heap.size) v8 (xa3) (sz1) (xc3)) := L151.out.go (by omega) hB
  have L165 : Hid (MidC (wo110.heap.size) (v7.heap.size) v8 (ya3) (M) (yc3)) := L152.out.go (by omega) hB
  have hb166 : Hid (Below w.heap.size w v8) := hb153.out.trans (hB.mono hb153.out.size)
  have L167 : Hid (MidC (wo140.heap.size) (v8.heap.size) v8 (xa4) ([(X.length : Int)]) (xc4)) := hX4.midc
  have L168 : Hid (MidC (wo140.heap.size) (v8.heap.size) v8 (ya4) (X) (yc4)) := hY4.midc
  clear hB hb153 B142 B143 B144 B145 B146 L147 L148 L149 L150 L151 L152 hX4 hY4
  have n169 := Abx.new v8 (.bool c1) (.slice xa4 1 xc4) (.slice ya4 X.length yc4)
  have l170 := ((B159.out.al (.cells #[.bool c1, .slice xa4 1 xc4, .slice ya4 X.length yc4] 24))).c0
  have l171 := ((B159.out.al (.cells #[.bool c1, .slice xa4 1 xc4, .slice ya4 X.length yc4] 24))).c1
  have l172 := ((B159.out.al (.cells #[.bool c1, .slice xa4 1 xc4, .slice ya4 X.length yc4] 24))).c2
  go_wp2_with fail
  obtain ⟨wo173, hwo173⟩ : ∃ wo173, wo173 = (v8.alloc (.cells #[.bool c1, .slice xa4 1 xc4, .slice ya4 X.length yc4] 24)) := ⟨_, rfl⟩
  rw [← hwo173]
  have z174 : v8.heap.size + 1 ≤ wo173.heap.size := by rw [hwo173]; simp only [World.size_alloc]; omega
  have B175 : Hid (Abx wo173 (w.heap.size) (.bool c1) (.slice sa1 sz1.length sc1) (.slice da1 dz1.length dc1)) := by rw [hwo173]; exact (B155.out.al (.cells #[.bool c1, .slice xa4 1 xc4, .slice ya4 X.length yc4] 24))
  have B176 : Hid (Abx wo173 (w.heap.size + 1) (.bool c2) (.slice sa2 sz2.length sc2) (.slice da2 dz2.length dc2)) := by rw [hwo173]; exact (B156.out.al (.cells #[.bool c1, .slice xa4 1 xc4, .slice ya4 X.length yc4] 24))
  have B177 : Hid (Abx wo173 (v5.heap.size) (.bool c1) (.slice xa1 1 xc1) (.slice ya1 X.length yc1)) := by rw [hwo173]; exact (B157.out.al (.cells #[.bool c1, .slice xa4 1 xc4, .slice ya4 X.length yc4] 24))
  have B178 : Hid (Abx wo173 (v6.heap.size) (.bool c1) (.slice xa2 1 xc2) (.slice ya2 Y.length yc2)) := by rw [hwo173]; exact (B158.out.al (.cells #[.bool c1, .slice xa4 1 xc4, .slice ya4 X.length yc4] 24))
  have B179 : Hid (Abx wo173 (v7.heap.size) (.bool false) (.slice xa3 sz1.length xc3) (.slice ya3 M.length yc3)) := by rw [hwo173]; exact (B159.out.al (.cells #[.bool c1, .slice xa4 1 xc4, .slice ya4 X.length yc4] 24))
  have B180 : Hid (Abx wo173 (v8.heap.size) (.bool c1) (.slice xa4 1 xc4) (.slice ya4 X.length yc4)) := by rw [hwo173]; exact n169
  have L181 : Hid (MidC (v4.heap.size) (v5.heap.size) wo173 (xa1) ([(X.length : Int)]) (xc1)) := by rw [hwo173]; exact (L160.out.al (by omega) (.cells #[.bool c1, .slice xa4 1 xc4, .slice ya4 X.length yc4] 24))
  have L182 : Hid (MidC (v4.heap.size) (v5.heap.size) wo173 (ya1) (X) (yc1)) := by rw [hwo173]; exact (L161.out.al (by omega) (.cells #[.bool c1, .slice xa4 1 xc4, .slice ya4 X.length yc4] 24))
  have L183 : Hid (MidC (wo86.heap.size) (v6.heap.size) wo173 (xa2) ([(Y.length : Int)]) (xc2)) := by rw [hwo173]; exact (L162.out.al (by omega) (.cells #[.bool c1, .slice xa4 1 xc4, .slice ya4 X.length yc4] 24))
  have L184 : Hid (MidC (wo86.heap.size) (v6.heap.size) wo173 (ya2) (Y) (yc2)) := by rw [hwo173]; exact (L163.out.al (by omega) (.cells #[.bool c1, .slice xa4 1 xc4, .slice ya4 X.length yc4] 24))
  have L185 : Hid (MidC (wo110.heap.size) (v7.heap.size) wo173 (xa3) (sz1) (xc3)) := by rw [hwo173]; exact (L164.out.al (by omega) (.cells #[.bool c1, .slice xa4 1 xc4, .slice ya4 X.length yc4] 24))
  have L186 : Hid (MidC (wo110.heap.size) (v7.heap.size) wo173 (ya3) (M) (yc3)) := by rw [hwo173]; exact (L165.out.al (by omega) (.cells #[.bool c1, .slice xa4 1 xc4, .slice ya4 X.length yc4] 24))
  have L187 : Hid (MidC (wo140.heap.size) (v8.heap.size) wo173 (xa4) ([(X.length : Int)]) (xc4)) := by rw [hwo173]; exact (L167.out.al (by omega) (.cells #[.bool c1, .slice xa4 1 xc4, .slice ya4 X.length yc4] 24))
  have L188 : Hid (MidC (wo140.heap.size) (v8.heap.size) wo173 (ya4) (X) (yc4)) := by rw [hwo173]; exact (L168.out.al (by omega) (.cells #[.bool c1, .slice xa4 1 xc4, .slice ya4 X.length yc4] 24))
  have hb189 : Hid (Below w.heap.size w wo173) := by rw [hwo173]; exact (hb166.out.alloc (by omega) (.cells #[.bool c1, .slice xa4 1 xc4, .slice ya4 X.length yc4] 24))
  have zwo173 : w.heap.size ≤ wo173.heap.size := hb189.out.size
  clear hwo173 n169 l170 l171 l172 hb166 B155 B156 B157 B158 B159 L160 L161 L162 L163 L164 L165 L167 L168
  refine (c1c_ok H1 17 false xa3 xc3 sz1 ya3 yc3 M _ (by unfold In64; decide) x11 (by omega) (L185.out.is (by omega)).1 (L186.out.is (by omega)).1 HT.out.1 V HV.out).mono ?_
  rintro e v9 ⟨xa5, xc5, ya5, yc5, rfl, hX5, hY5, hB⟩
  have z190 : wo173.heap.size ≤ v9.heap.size := hB.size
  have B191 : Hid (Abx v9 (w.heap.size) (.bool c1) (.slice sa1 sz1.length sc1) (.slice da1 dz1.length dc1)) := B175.out.go hB
  have B192 : Hid (Abx v9 (w.heap.size + 1) (.bool c2) (.slice sa2 sz2.length sc2) (.slice da2 dz2.length dc2)) := B176.out.go hB
  have B193 : Hid (Abx v9 (v5.heap.size) (.bool c1) (.slice xa1 1 xc1) (.slice ya1 X.length yc1)) := B177.out.go hB
  have B194 : Hid (Abx v9 (v6.heap.size) (.bool c1) (.slice xa2 1 xc2) (.slice ya2 Y.length yc2)) := B178.out.go hB
  have B195 : Hid (Abx v9 (v7.heap.size) (.bool false) (.slice xa3 sz1.length xc3) (.slice ya3 M.length yc3)) := B179.out.go hB
  have B196 : Hid (Abx v9 (v8.heap.size) (.bool c1) (.slice xa4 1 xc4) (.slice ya4 X.length yc4)) := B180.out.go hB
  have L197 : Hid (MidC (v4.heap.size) (v5.heap.size) v9 (xa1) ([(X.length : Int)]) (xc1)) := L181.out.go (by omega) hB
  have L198 : Hid (MidC (v4.heap.size) (v5.heap.size) v9 (ya1) (X) (yc1)) := L182.out.go (by omega) hB
  have L199 : Hid (MidC (wo86.heap.size) (v6.heap.size) v9 (xa2) ([(Y.length : Int)]) (xc2)) := L183.out.go (by omega) hB
  have L200 : Hid (MidC (wo86.heap.size) (v6.heap.size) v9 (ya2) (Y) (yc2)) := L184.out.go (by omega) hB
  have L201 : Hid (MidC (wo110.heap.size) (v7.heap.size) v9 (xa3) (sz1) (xc3)) := L185.out.go (by omega) hB
  have L202 : Hid (MidC (wo110.heap.size) (v7.heap.size) v9 (ya3) (M) (yc3)) := L186.out.go (by omega) hB
  have L203 : Hid (MidC (wo140.heap.size) (v8.heap.size) v9 (xa4) ([(X.length : Int)]) (xc4)) := L187.out.go (by omega) hB
  have L204 : Hid (MidC (wo140.heap.size) (v8.heap.size) v9 (ya4) (X) (yc4)) := L188.out.go (by omega) hB
  have hb205 : Hid (Below w.heap.size w v9) := hb189.out.trans (hB.mono hb189.out.size)
  have L206 : Hid (MidC (wo173.heap.size) (v9.heap.size) v9 (xa5) (sz1) (xc5)) := hX5.midc
  have L207 : Hid (MidC (wo173.heap.size) (v9.heap.size) v9 (ya5) (V) (yc5)) := hY5.midc
  clear hB hb189 B175 B176 B177 B178 B179 B180 L181 L182 L183 L184 L185 L186 L187 L188 hX5 hY5
  clear L201 L202 B195
  have n208 := Abx.new v9 (.bool false) (.slice xa5 sz1.length xc5) (.slice ya5 V.length yc5)
  have l209 := (n208).c0
  have l210 := (n208).c1
  have l211 := (n208).c2
  have l212 := ((B191.out.al (.cells #[.bool false, .slice xa5 sz1.length xc5, .slice ya5 V.length yc5] 24))).c0
  have l213 := ((B191.out.al (.cells #[.bool false, .slice xa5 sz1.length xc5, .slice ya5 V.length yc5] 24))).c1
  have l214 := ((B191.out.al (.cells #[.bool false, .slice xa5 sz1.length xc5, .slice ya5 V.length yc5] 24))).c2
  go_wp2_with fail
  obtain ⟨wo215, hwo215⟩ : ∃ wo215, wo215 = (v9.alloc (.cells #[.bool false, .slice xa5 sz1.length xc5, .slice ya5 V.length yc5] 24)) := ⟨_, rfl⟩
  rw [← hwo215]
  have z216 : v9.heap.size + 1 ≤ wo215.heap.size := by rw [hwo215]; simp only [World.size_alloc]; omega
  have B217 : Hid (Abx wo215 (w.heap.size) (.bool c1) (.slice sa1 sz1.length sc1) (.slice da1 dz1.length dc1)) := by rw [hwo215]; exact (B191.out.al (.cells #[.bool false, .slice xa5 sz1.length xc5, .slice ya5 V.length yc5] 24))
  have B218 : Hid (Abx wo215 (w.heap.size + 1) (.bool c2) (.slice sa2 sz2.length sc2) (.slice da2 dz2.length dc2)) := by rw [hwo215]; exact (B192.out.al (.cells #[.bool false, .slice xa5 sz1.length xc5, .slice ya5 V.length yc5] 24))
  have B219 : Hid (Abx wo215 (v5.heap.size) (.bool c1) (.slice xa1 1 xc1) (.slice ya1 X.length yc1)) := by rw [hwo215]; exact (B193.out.al (.cells #[.bool false, .slice xa5 sz1.length xc5, .slice ya5 V.length yc5] 24))
  have B220 : Hid (Abx wo215 (v6.heap.size) (.bool c1) (.slice xa2 1 xc2) (.slice ya2 Y.length yc2)) := by rw [hwo215]; exact (B194.out.al (.cells #[.bool false, .slice xa5 sz1.length xc5, .slice ya5 V.length yc5] 24))
  have B221 : Hid (Abx wo215 (v8.heap.size) (.bool c1) (.slice xa4 1 xc4) (.slice ya4 X.length yc4)) := by rw [hwo215]; exact (B196.out.al (.cells #[.bool false, .slice xa5 sz1.length xc5, .slice ya5 V.length yc5] 24))
  have B222 : Hid (Abx wo215 (v9.heap.size) (.bool false) (.slice xa5 sz1.length xc5) (.slice ya5 V.length yc5)) := by rw [hwo215]; exact n208
  have L223 : Hid (MidC (v4.heap.size) (v5.heap.size) wo215 (xa1) ([(X.length : Int)]) (xc1)) := by rw [hwo215]; exact (L197.out.al (by omega) (.cells #[.bool false, .slice xa5 sz1.length xc5, .slice ya5 V.length yc5] 24))
  have L224 : Hid (MidC (v4.heap.size) (v5.heap.size) wo215 (ya1) (X) (yc1)) := by rw [hwo215]; exact (L198.out.al (by omega) (.cells #[.bool false, .slice xa5 sz1.length xc5, .slice ya5 V.length yc5] 24))
  have L225 : Hid (MidC (wo86.heap.size) (v6.heap.size) wo215 (xa2) ([(Y.length : Int)]) (xc2)) := by rw [hwo215]; exact (L199.out.al (by omega) (.cells #[.bool false, .slice xa5 sz1.length xc5, .slice ya5 V.length yc5] 24))
  have L226 : Hid (MidC (wo86.heap.size) (v6.heap.size) wo215 (ya2) (Y) (yc2)) := by rw [hwo215]; exact (L200.out.al (by omega) (.cells #[.bool false, .slice xa5 sz1.length xc5, .slice ya5 V.length yc5] 24))
  have L227 : Hid (MidC (wo140.heap.size) (v8.heap.size) wo215 (xa4) ([(X.length : Int)]) (xc4)) := by rw [hwo215]; exact (L203.out.al (by omega) (.cells #[.bool false, .slice xa5 sz1.length xc5, .slice ya5 V.length yc5] 24))
  have L228 : Hid (MidC (wo140.heap.size) (v8.heap.size) wo215 (ya4) (X) (yc4)) := by rw [hwo215]; exact (L204.out.al (by omega) (.cells #[.bool false, .slice xa5 sz1.length xc5, .slice ya5 V.length yc5] 24))
  have L229 : Hid (MidC (wo173.heap.size) (v9.heap.size) wo215 (xa5) (sz1) (xc5)) := by rw [hwo215]; exact (L206.out.al (by omega) (.cells #[.bool false, .slice xa5 sz1.length xc5, .slice ya5 V.length yc5] 24))
  have L230 : Hid (MidC (wo173.heap.size) (v9.heap.size) wo215 (ya5) (V) (yc5)) := by rw [hwo215]; exact (L207.out.al (by omega) (.cells #[.bool false, .slice xa5 sz1.length xc5, .slice ya5 V.length yc5] 24))
  have hb231 : Hid (Below w.heap.size w wo215) := by rw [hwo215]; exact (hb205.out.alloc (by omega) (.cells #[.bool false, .slice xa5 sz1.length xc5, .slice ya5 V.length yc5] 24))
  have zwo215 : w.heap.size ≤ wo215.heap.size := hb231.out.size
  clear hwo215 n208 l209 l210 l211 l212 l213 l214 hb205 B191 B192 B193 B194 B196 L197 L198 L199 L200 L203 L204 L206 L207
  refine (kp_ok ya5 yc5 V 0 (by unfold In64; decide) c1 sa1 sc1 sz1 da1 dc1 dz1 _ (by omega) HT.out.2 (L230.out.is (by omega)) x11 x12 ((HI1.out.1.below hb231.out).mono hb231.out.size) ((HI1.out.2.1.below hb231.out).mono hb231.out.size) HI1.out.2.2.2 [(Y.length : Int)] Y HK HKY.out).mono ?_
  rintro e v10 ⟨xa6, xc6, ya6, yc6, rfl, hX6, hY6, hB⟩
  have z232 : wo215.heap.size ≤ v10.heap.size := hB.size
  have B233 : Hid (Abx v10 (w.heap.size) (.bool c1) (.slice sa1 sz1.length sc1) (.slice da1 dz1.length dc1)) := B217.out.go hB
  have B234 : Hid (Abx v10 (w.heap.size + 1) (.bool c2) (.slice sa2 sz2.length sc2) (.slice da2 dz2.length dc2)) := B218.out.go hB
  have B235 : Hid (Abx v10 (v5.heap.size) (.bool c1) (.slice xa1 1 xc1) (.slice ya1 X.length yc1)) := B219.out.go hB
  have B236 : Hid (Abx v10 (v6.heap.size) (.bool c1) (.slice xa2 1 xc2) (.slice ya2 Y.length yc2)) := B220.out.go hB
  have B237 : Hid (Abx v10 (v8.heap.size) (.bool c1) (.slice xa4 1 xc4) (.slice ya4 X.length yc4)) := B221.out.go hB
  have B238 : Hid (Abx v10 (v9.heap.size) (.bool false) (.slice xa5 sz1.length xc5) (.slice ya5 V.length yc5)) := B222.out.go hB
  have L239 : Hid (MidC (v4.heap.size) (v5.heap.size) v10 (xa1) ([(X.length : Int)]) (xc1)) := L223.out.go (by omega) hB
  have L240 : Hid (MidC (v4.heap.size) (v5.heap.size) v10 (ya1) (X) (yc1)) := L224.out.go (by omega) hB
  have L241 : Hid (MidC (wo86.heap.size) (v6.heap.size) v10 (xa2) ([(Y.length : Int)]) (xc2)) := L225.out.go (by omega) hB
  have L242 : Hid (MidC (wo86.heap.size) (v6.heap.size) v10 (ya2) (Y) (yc2)) := L226.out.go (by omega) hB
  have L243 : Hid (MidC (wo140.heap.size) (v8.heap.size) v10 (xa4) ([(X.length : Int)]) (xc4)) := L227.out.go (by omega) hB
  have L244 : Hid (MidC (wo140.heap.size) (v8.heap.size) v10 (ya4) (X) (yc4)) := L228.out.go (by omega) hB
  have L245 : Hid (MidC (wo173.heap.size) (v9.heap.size) v10 (xa5) (sz1) (xc5)) := L229.out.go (by omega) hB
  have L246 : Hid (MidC (wo173.heap.size) (v9.heap.size) v10 (ya5) (V) (yc5)) := L230.out.go (by omega) hB
  have hb247 : Hid (Below w.heap.size w v10) := hb231.out.trans (hB.mono hb231.out.size)
  have L248 : Hid (MidC (wo215.heap.size) (v10.heap.size) v10 (xa6) ([(Y.length : Int)]) (xc6)) := hX6.midc
  have L249 : Hid (MidC (wo215.heap.size) (v10.heap.size) v10 (ya6) (Y) (yc6)) := hY6.midc
  clear hB hb231 B217 B218 B219 B220 B221 B222 L223 L224 L225 L226 L227 L228 L229 L230 hX6 hY6
  clear L245 L246 B238
  have n250 := Abx.new v10 (.bool c1) (.slice xa6 1 xc6) (.slice ya6 Y.length yc6)
  have l251 := ((B235.out.al (.cells #[.bool c1, .slice xa6 1 xc6, .slice ya6 Y.length yc6] 24))).c0
  have l252 := ((B235.out.al (.cells #[.bool c1, .slice xa6 1 xc6, .slice ya6 Y.length yc6] 24))).c1
  have l253 := ((B235.out.al (.cells #[.bool c1, .slice xa6 1 xc6, .slice ya6 Y.length yc6] 24))).c2
  have l254 := ((B237.out.al (.cells #[.bool c1, .slice xa6 1 xc6, .slice ya6 Y.length yc6] 24))).c0
  have l255 := ((B237.out.al (.cells #[.bool c1, .slice xa6 1 xc6, .slice ya6 Y.length yc6] 24))).c1
  have l256 := ((B237.out.al (.cells #[.bool c1, .slice xa6 1 xc6, .slice ya6 Y.length yc6] 24))).c2
  go_wp2_with fail
  obtain ⟨wo257, hwo257⟩ : ∃ wo257, wo257 = (v10.alloc (.cells #[.bool c1, .slice xa6 1 xc6, .slice ya6 Y.length yc6] 24)) := ⟨_, rfl⟩
  rw [← hwo257]
  have z258 : v10.heap.size + 1 ≤ wo257.heap.size := by rw [hwo257]; simp only [World.size_alloc]; omega
  have B259 : Hid (Abx wo257 (w.heap.size) (.bool c1) (.slice sa1 sz1.length sc1) (.slice da1 dz1.length dc1)) := by rw [hwo257]; exact (B233.out.al (.cells #[.bool c1, .slice xa6 1 xc6, .slice ya6 Y.length yc6] 24))
  have B260 : Hid (Abx wo257 (w.heap.size + 1) (.bool c2) (.slice sa2 sz2.length sc2) (.slice da2 dz2.length dc2)) := by rw [hwo257]; exact (B234.out.al (.cells #[.bool c1, .slice xa6 1 xc6, .slice ya6 Y.length yc6] 24))
  have B261 : Hid (Abx wo257 (v5.heap.size) (.bool c1) (.slice xa1 1 xc1) (.slice ya1 X.length yc1)) := by rw [hwo257]; exact (B235.out.al (.cells #[.bool c1, .slice xa6 1 xc6, .slice ya6 Y.length yc6] 24))
  have B262 : Hid (Abx wo257 (v6.heap.size) (.bool c1) (.slice xa2 1 xc2) (.slice ya2 Y.length yc2)) := by rw [hwo257]; exact (B236.out.al (.cells #[.bool c1, .slice xa6 1 xc6, .slice ya6 Y.length yc6] 24))
  have B263 : Hid (Abx wo257 (v8.heap.size) (.bool c1) (.slice xa4 1 xc4) (.slice ya4 X.length yc4)) := by rw [hwo257]; exact (B237.out.al (.cells #[.bool c1, .slice xa6 1 xc6, .slice ya6 Y.length yc6] 24))
  have B264 : Hid (Abx wo257 (v10.heap.size) (.bool c1) (.slice xa6 1 xc6) (.slice ya6 Y.length yc6)) := by rw [hwo257]; exact n250
  have L265 : Hid (MidC (v4.heap.size) (v5.heap.size) wo257 (xa1) ([(X.length : Int)]) (xc1)) := by rw [hwo257]; exact (L239.out.al (by omega) (.cells #[.bool c1, .slice xa6 1 xc6, .slice ya6 Y.length yc6] 24))
  have L266 : Hid (MidC (v4.heap.size) (v5.heap.size) wo257 (ya1) (X) (yc1)) := by rw [hwo257]; exact (L240.out.al (by omega) (.cells #[.bool c1, .slice xa6 1 xc6, .slice ya6 Y.length yc6] 24))
  have L267 : Hid (MidC (wo86.heap.size) (v6.heap.size) wo257 (xa2) ([(Y.length : Int)]) (xc2)) := by rw [hwo257]; exact (L241.out.al (by omega) (.cells #[.bool c1, .slice xa6 1 xc6, .slice ya6 Y.length yc6] 24))
  have L268 : Hid (MidC (wo86.heap.size) (v6.heap.size) wo257 (ya2) (Y) (yc2)) := by rw [hwo257]; exact (L242.out.al (by omega) (.cells #[.bool c1, .slice xa6 1 xc6, .slice ya6 Y.length yc6] 24))
  have L269 : Hid (MidC (wo140.heap.size) (v8.heap.size) wo257 (xa4) ([(X.length : Int)]) (xc4)) := by rw [hwo257]; exact (L243.out.al (by omega) (.cells #[.bool c1, .slice xa6 1 xc6, .slice ya6 Y.length yc6] 24))
  have L270 : Hid (MidC (wo140.heap.size) (v8.heap.size) wo257 (ya4) (X) (yc4)) := by rw [hwo257]; exact (L244.out.al (by omega) (.cells #[.bool c1, .slice xa6 1 xc6, .slice ya6 Y.length yc6] 24))
  have L271 : Hid (MidC (wo215.heap.size) (v10.heap.size) wo257 (xa6) ([(Y.length : Int)]) (xc6)) := by rw [hwo257]; exact (L248.out.al (by omega) (.cells #[.bool c1, .slice xa6 1 xc6, .slice ya6 Y.length yc6] 24))
  have L272 : Hid (MidC (wo215.heap.size) (v10.heap.size) wo257 (ya6) (Y) (yc6)) := by rw [hwo257]; exact (L249.out.al (by omega) (.cells #[.bool c1, .slice xa6 1 xc6, .slice ya6 Y.length yc6] 24))
  have hb273 : Hid (Below w.heap.size w wo257) := by rw [hwo257]; exact (hb247.out.alloc (by omega) (.cells #[.bool c1, .slice xa6 1 xc6, .slice ya6 Y.length yc6] 24))
  have zwo257 : w.heap.size ≤ wo257.heap.size := hb273.out.size
  clear hwo257 n250 l251 l252 l253 l254 l255 l256 hb247 B233 B234 B235 B236 B237 L239 L240 L241 L242 L243 L244 L248 L249
  refine (alike_eq c1 xa1 xc1 [(X.length : Int)] ya1 yc1 X xa4 xc4 [(X.length : Int)] ya4 yc4 X rfl rfl (by simp) (by omega) _ (L265.out.is (by omega)) (L266.out.is (by omega)).1 (L269.out.is (by omega)) (L270.out.is (by omega)).1).mono ?_
  rintro e v11 ⟨rfl, hB⟩
  have z274 : wo257.heap.size ≤ v11.heap.size := hB.size
  have B275 : Hid (Abx v11 (w.heap.size) (.bool c1) (.slice sa1 sz1.length sc1) (.slice da1 dz1.length dc1)) := B259.out.go hB
  have B276 : Hid (Abx v11 (w.heap.size + 1) (.bool c2) (.slice sa2 sz2.length sc2) (.slice da2 dz2.length dc2)) := B260.out.go hB
  have B277 : Hid (Abx v11 (v5.heap.size) (.bool c1) (.slice xa1 1 xc1) (.slice ya1 X.length yc1)) := B261.out.go hB
  have B278 : Hid (Abx v11 (v6.heap.size) (.bool c1) (.slice xa2 1 xc2) (.slice ya2 Y.length yc2)) := B262.out.go hB
  have B279 : Hid (Abx v11 (v8.heap.size) (.bool c1) (.slice xa4 1 xc4) (.slice ya4 X.length yc4)) := B263.out.go hB
  have B280 : Hid (Abx v11 (v10.heap.size) (.bool c1) (.slice xa6 1 xc6) (.slice ya6 Y.length yc6)) := B264.out.go hB
  have L281 : Hid (MidC (v4.heap.size) (v5.heap.size) v11 (xa1) ([(X.length : Int)]) (xc1)) := L265.out.go (by omega) hB
  have L282 : Hid (MidC (v4.heap.size) (v5.heap.size) v11 (ya1) (X) (yc1)) := L266.out.go (by omega) hB
  have L283 : Hid (MidC (wo86.heap.size) (v6.heap.size) v11 (xa2) ([(Y.length : Int)]) (xc2)) := L267.out.go (by omega) hB
  have L284 : Hid (MidC (wo86.heap.size) (v6.heap.size) v11 (ya2) (Y) (yc2)) := L268.out.go (by omega) hB
  have L285 : Hid (MidC (wo140.heap.size) (v8.heap.size) v11 (xa4) ([(X.length : Int)]) (xc4)) := L269.out.go (by omega) hB
  have L286 : Hid (MidC (wo140.heap.size) (v8.heap.size) v11 (ya4) (X) (yc4)) := L270.out.go (by omega) hB
  have L287 : Hid (MidC (wo215.heap.size) (v10.heap.size) v11 (xa6) ([(Y.length : Int)]) (xc6)) := L271.out.go (by omega) hB
  have L288 : Hid (MidC (wo215.heap.size) (v10.heap.size) v11 (ya6) (Y) (yc6)) := L272.out.go (by omega) hB
  have hb289 : Hid (Below w.heap.size w v11) := hb273.out.trans (hB.mono hb273.out.size)
  clear hB hb273 B259 B260 B261 B262 B263 B264 L265 L266 L267 L268 L269 L270 L271 L272
  clear L281 L282 L285 L286 B277 B279
  have l290 := (B278.out).c0
  have l291 := (B278.out).c1
  have l292 := (B278.out).c2
  have l293 := (B280.out).c0
  have l294 := (B280.out).c1
  have l295 := (B280.out).c2
  go_wp2_with fail
  clear l290 l291 l292 l293 l294 l295
  refine (alike_eq c1 xa2 xc2 [(Y.length : Int)] ya2 yc2 Y xa6 xc6 [(Y.length : Int)] ya6 yc6 Y rfl rfl (by simp) (by omega) _ (L283.out.is (by omega)) (L284.out.is (by omega)).1 (L287.out.is (by omega)) (L288.out.is (by omega)).1).mono ?_
  rintro e v12 ⟨rfl, hB⟩
  have z296 : v11.heap.size ≤ v12.heap.size := hB.size
  have B297 : Hid (Abx v12 (w.heap.size) (.bool c1) (.slice sa1 sz1.length sc1) (.slice da1 dz1.length dc1)) := B275.out.go hB
  have B298 : Hid (Abx v12 (w.heap.size + 1) (.bool c2) (.slice sa2 sz2.length sc2) (.slice da2 dz2.length dc2)) := B276.out.go hB
  have B299 : Hid (Abx v12 (v6.heap.size) (.bool c1) (.slice xa2 1 xc2) (.slice ya2 Y.length yc2)) := B278.out.go hB
  have B300 : Hid (Abx v12 (v10.heap.size) (.bool c1) (.slice xa6 1 xc6) (.slice ya6 Y.length yc6)) := B280.out.go hB
  have L301 : Hid (MidC (wo86.heap.size) (v6.heap.size) v12 (xa2) ([(Y.length : Int)]) (xc2)) := L283.out.go (by omega) hB
  have L302 : Hid (MidC (wo86.heap.size) (v6.heap.size) v12 (ya2) (Y) (yc2)) := L284.out.go (by omega) hB
  have L303 : Hid (MidC (wo215.heap.size) (v10.heap.size) v12 (xa6) ([(Y.length : Int)]) (xc6)) := L287.out.go (by omega) hB
  have L304 : Hid (MidC (wo215.heap.size) (v10.heap.size) v12 (ya6) (Y) (yc6)) := L288.out.go (by omega) hB
  have hb305 : Hid (Below w.heap.size w v12) := hb289.out.trans (hB.mono hb289.out.size)
  clear hB hb289 B275 B276 B278 B280 L283 L284 L287 L288
  clear L301 L302 L303 L304 B299 B300
  go_wp2_with fail
  go_ret
  exact ⟨rfl, hb305.out⟩
theorem smasks_walk (HIn : CIn) (HMt : CMt) (HWo : CWo) (HK : CKp) (H1 : C1c) (c1 : Bool) (sa1 : Option Addr) (sc1 : Nat) (sz1 : List Int) (da1 : Option Addr) (dc1 : Nat) (dz1 : List Int) (c2 : Bool) (sa2 : Option Addr) (sc2 : Nat) (sz2 : List Int) (da2 : Option Addr) (dc2 : Nat) (dz2 : List Int) (w : World) (w8 : IsArrD w sa1 sz1 sc1 da1 dz1 dc1) (w9 : IsArrD w sa2 sz2 sc2 da2 dz2 dc2) :
    Calls Try.prog 3 #[.agg #[.bool c1, .slice sa1 sz1.length sc1, .slice da1 dz1.length dc1], .agg #[.bool c2, .slice sa2 sz2.length sc2, .slice da2 dz2.length dc2]] w fun e w' => e = .returned (.bool true) ∧ Below w.heap.size w w' := by
  by_cases h1 : lsE c1 sz1 dz1 c2 sz2 dz2 = 0
  · exact masks_ok HIn HMt HWo HK H1 c1 sa1 sc1 sz1 da1 dc1 dz1 c2 sa2 sc2 sz2 da2 dc2 dz2 w w8 w9 h1
  · exact masks_no HIn HMt HWo HK H1 c1 sa1 sc1 sz1 da1 dc1 dz1 c2 sa2 sc2 sz2 da2 dc2 dz2 w w8 w9 h1
end Go.Proofs.Yteieliajdfbipab
