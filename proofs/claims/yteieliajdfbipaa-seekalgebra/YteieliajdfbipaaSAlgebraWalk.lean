/-
  The walk of the statement SeekAlgebra, given what the program tells.
-/
import Derived.Test.YteieliajdfbipaaSekw
import Derived.Test.YteieliajdfbipaaMidc
import Derived.Test.YteieliajdfbipaaSarr
import Derived.Test.YteieliajdfbipaaVec
namespace Go.Proofs.Yteieliajdfbipaa
open Go.RowKit
set_option linter.unusedVariables false

theorem lit_all {xs : List Int} (h : xs.all (fun x => decide (-9223372036854775808 ≤ x ∧ x ≤ 9223372036854775807)) = true) : ∀ j, In64 (nth xs j) := fun j => by
  by_cases hj : j < xs.length
  · have : nth xs j ∈ xs := by simp [nth, hj]
    exact of_decide_eq_true (p := -9223372036854775808 ≤ nth xs j ∧ nth xs j ≤ 9223372036854775807) (List.all_eq_true.1 h _ this)
  · have : nth xs j = 0 := by simp [nth, List.getElem?_eq_none (Nat.le_of_not_lt hj)]
    rw [this]; unfold In64; decide
set_option maxRecDepth 100000 in
set_option maxHeartbeats 8000000 in
theorem algebra_no1 (HWo : CWo) (HMt : CMt) (HUn : CUn) (c1 : Bool) (sa1 : Option Addr) (sc1 : Nat) (sz1 : List Int) (da1 : Option Addr) (dc1 : Nat) (dz1 : List Int) (c2 : Bool) (sa2 : Option Addr) (sc2 : Nat) (sz2 : List Int) (da2 : Option Addr) (dc2 : Nat) (dz2 : List Int) (c3 : Bool) (sa3 : Option Addr) (sc3 : Nat) (sz3 : List Int) (da3 : Option Addr) (dc3 : Nat) (dz3 : List Int) (w : World) (w8 : IsArrD w sa1 sz1 sc1 da1 dz1 dc1) (w9 : IsArrD w sa2 sz2 sc2 da2 dz2 dc2) (w10 : IsArrD w sa3 sz3 sc3 da3 dz3 dc3) (F1 : Hid (unE c2 sz2 dz2 c3 sz3 dz3 ≠ 0)) :
    Calls Try.prog 5 #[.agg #[.bool c1, .slice sa1 sz1.length sc1, .slice da1 dz1.length dc1], .agg #[.bool c2, .slice sa2 sz2.length sc2, .slice da2 dz2.length dc2], .agg #[.bool c3, .slice sa3 sz3.length sc3, .slice da3 dz3.length dc3]] w fun e w' => e = .returned (.bool true) ∧ Below w.heap.size w w' := by
  obtain ⟨S2, hS⟩ : ∃ S, S = onl (lsE c1 sz1 dz1 c2 sz2 dz2) [((shD c1 dz1 c2 dz2 false).length : Int)] := ⟨_, rfl⟩
  obtain ⟨D2, hD⟩ : ∃ D, D = onl (lsE c1 sz1 dz1 c2 sz2 dz2) (shD c1 dz1 c2 dz2 false) := ⟨_, rfl⟩
  obtain ⟨C2, hC⟩ : ∃ C, C = onc (lsE c1 sz1 dz1 c2 sz2 dz2) c1 := ⟨_, rfl⟩
  obtain ⟨E2, hE⟩ : ∃ E, E = lsE c1 sz1 dz1 c2 sz2 dz2 := ⟨_, rfl⟩
  have HN2 : Hid (S2 = onl (lsE c1 sz1 dz1 c2 sz2 dz2) [((shD c1 dz1 c2 dz2 false).length : Int)] ∧ D2 = onl (lsE c1 sz1 dz1 c2 sz2 dz2) (shD c1 dz1 c2 dz2 false) ∧ C2 = onc (lsE c1 sz1 dz1 c2 sz2 dz2) c1 ∧ E2 = lsE c1 sz1 dz1 c2 sz2 dz2) := ⟨hS, hD, hC, hE⟩
  clear hS hD hC hE
  obtain ⟨S3, hS⟩ : ∃ S, S = onl (lsE c1 sz1 dz1 c2 sz2 dz2) [((shD c1 dz1 c2 dz2 true).length : Int)] := ⟨_, rfl⟩
  obtain ⟨D3, hD⟩ : ∃ D, D = onl (lsE c1 sz1 dz1 c2 sz2 dz2) (shD c1 dz1 c2 dz2 true) := ⟨_, rfl⟩
  obtain ⟨C3, hC⟩ : ∃ C, C = onc (lsE c1 sz1 dz1 c2 sz2 dz2) c1 := ⟨_, rfl⟩
  obtain ⟨E3, hE⟩ : ∃ E, E = lsE c1 sz1 dz1 c2 sz2 dz2 := ⟨_, rfl⟩
  have HN3 : Hid (S3 = onl (lsE c1 sz1 dz1 c2 sz2 dz2) [((shD c1 dz1 c2 dz2 true).length : Int)] ∧ D3 = onl (lsE c1 sz1 dz1 c2 sz2 dz2) (shD c1 dz1 c2 dz2 true) ∧ C3 = onc (lsE c1 sz1 dz1 c2 sz2 dz2) c1 ∧ E3 = lsE c1 sz1 dz1 c2 sz2 dz2) := ⟨hS, hD, hC, hE⟩
  clear hS hD hC hE
  obtain ⟨x11, x12, x3, x4, s64, T⟩ := w8
  have HI1 : Hid (IsC w.heap.size w sa1 sz1 sc1 ∧ IsC w.heap.size w da1 dz1 dc1 ∧ (∀ j, In64 (nth sz1 j)) ∧ ∀ j, In64 (nth dz1 j)) := ⟨x3, x4, s64, T⟩
  clear x3 x4 T s64
  obtain ⟨x21, x22, x3, x4, s64, T⟩ := w9
  have HI2 : Hid (IsC w.heap.size w sa2 sz2 sc2 ∧ IsC w.heap.size w da2 dz2 dc2 ∧ (∀ j, In64 (nth sz2 j)) ∧ ∀ j, In64 (nth dz2 j)) := ⟨x3, x4, s64, T⟩
  clear x3 x4 T s64
  obtain ⟨x31, x32, x3, x4, s64, T⟩ := w10
  have HI3 : Hid (IsC w.heap.size w sa3 sz3 sc3 ∧ IsC w.heap.size w da3 dz3 dc3 ∧ (∀ j, In64 (nth sz3 j)) ∧ ∀ j, In64 (nth dz3 j)) := ⟨x3, x4, s64, T⟩
  clear x3 x4 T s64
  have n1 := Abx.new w (.bool c1) (.slice sa1 sz1.length sc1) (.slice da1 dz1.length dc1)
  have n2 := Abx.new (w.alloc (.cells #[.bool c1, .slice sa1 sz1.length sc1, .slice da1 dz1.length dc1] 24)) (.bool c2) (.slice sa2 sz2.length sc2) (.slice da2 dz2.length dc2)
  simp only [World.size_alloc] at n2
  have n3 := Abx.new ((w.alloc (.cells #[.bool c1, .slice sa1 sz1.length sc1, .slice da1 dz1.length dc1] 24)).alloc (.cells #[.bool c2, .slice sa2 sz2.length sc2, .slice da2 dz2.length dc2] 24)) (.bool c3) (.slice sa3 sz3.length sc3) (.slice da3 dz3.length dc3)
  simp only [World.size_alloc] at n3
  have n4 := lit_mid (((w.alloc (.cells #[.bool c1, .slice sa1 sz1.length sc1, .slice da1 dz1.length dc1] 24)).alloc (.cells #[.bool c2, .slice sa2 sz2.length sc2, .slice da2 dz2.length dc2] 24)).alloc (.cells #[.bool c3, .slice sa3 sz3.length sc3, .slice da3 dz3.length dc3] 24)) 3 [5, 6] 2 rfl
  simp only [World.size_alloc, List.map_cons, List.map_nil] at n4
  go_enter Try.func5, Try.ntmps5
  go_wp2_with fail
  obtain ⟨wo5, hwo5⟩ : ∃ wo5, wo5 = ((((w.alloc (.cells #[.bool c1, .slice sa1 sz1.length sc1, .slice da1 dz1.length dc1] 24)).alloc (.cells #[.bool c2, .slice sa2 sz2.length sc2, .slice da2 dz2.length dc2] 24)).alloc (.cells #[.bool c3, .slice sa3 sz3.length sc3, .slice da3 dz3.length dc3] 24)).alloc (.cells #[.int .i64 5, .int .i64 6] 3)) := ⟨_, rfl⟩
  rw [← hwo5]
  have z6 : w.heap.size + 1 + 1 + 1 + 1 ≤ wo5.heap.size := by rw [hwo5]; simp only [World.size_alloc]; omega
  have B7 : Hid (Abx wo5 (w.heap.size) (.bool c1) (.slice sa1 sz1.length sc1) (.slice da1 dz1.length dc1)) := by rw [hwo5]; exact (((n1.al (.cells #[.bool c2, .slice sa2 sz2.length sc2, .slice da2 dz2.length dc2] 24)).al (.cells #[.bool c3, .slice sa3 sz3.length sc3, .slice da3 dz3.length dc3] 24)).al (.cells #[.int .i64 5, .int .i64 6] 3))
  have B8 : Hid (Abx wo5 (w.heap.size + 1) (.bool c2) (.slice sa2 sz2.length sc2) (.slice da2 dz2.length dc2)) := by rw [hwo5]; exact ((n2.al (.cells #[.bool c3, .slice sa3 sz3.length sc3, .slice da3 dz3.length dc3] 24)).al (.cells #[.int .i64 5, .int .i64 6] 3))
  have B9 : Hid (Abx wo5 (w.heap.size + 1 + 1) (.bool c3) (.slice sa3 sz3.length sc3) (.slice da3 dz3.length dc3)) := by rw [hwo5]; exact (n3.al (.cells #[.int .i64 5, .int .i64 6] 3))
  have L10 : Hid (MidC (w.heap.size + 1 + 1 + 1) (w.heap.size + 1 + 1 + 1 + 1) wo5 (some ⟨w.heap.size + 1 + 1 + 1, 0, none⟩) ([5, 6]) (2)) := by rw [hwo5]; exact n4
  have hb11 : Hid (Below w.heap.size w wo5) := by rw [hwo5]; exact (((((Below.refl w.heap.size w).alloc (by omega) (.cells #[.bool c1, .slice sa1 sz1.length sc1, .slice da1 dz1.length dc1] 24)).alloc (by simp only [World.size_alloc]; omega) (.cells #[.bool c2, .slice sa2 sz2.length sc2, .slice da2 dz2.length dc2] 24)).alloc (by simp only [World.size_alloc]; omega) (.cells #[.bool c3, .slice sa3 sz3.length sc3, .slice da3 dz3.length dc3] 24)).alloc (by simp only [World.size_alloc]; omega) (.cells #[.int .i64 5, .int .i64 6] 3))
  have zwo5 : w.heap.size ≤ wo5.heap.size := hb11.out.size
  clear hwo5 n1 n2 n3 n4
  refine (vec_c (some ⟨w.heap.size + 1 + 1 + 1, 0, none⟩) 2 [5, 6] (by simp) _ (L10.out.is (by omega)).1).mono ?_
  rintro e v1 ⟨vap, vcp, gap, gcp, rfl, hVp, hGp, hB⟩
  have z12 : wo5.heap.size ≤ v1.heap.size := hB.size
  have B13 : Hid (Abx v1 (w.heap.size) (.bool c1) (.slice sa1 sz1.length sc1) (.slice da1 dz1.length dc1)) := B7.out.go hB
  have B14 : Hid (Abx v1 (w.heap.size + 1) (.bool c2) (.slice sa2 sz2.length sc2) (.slice da2 dz2.length dc2)) := B8.out.go hB
  have B15 : Hid (Abx v1 (w.heap.size + 1 + 1) (.bool c3) (.slice sa3 sz3.length sc3) (.slice da3 dz3.length dc3)) := B9.out.go hB
  have L16 : Hid (MidC (w.heap.size + 1 + 1 + 1) (w.heap.size + 1 + 1 + 1 + 1) v1 (some ⟨w.heap.size + 1 + 1 + 1, 0, none⟩) ([5, 6]) (2)) := L10.out.go (by omega) hB
  have hb17 : Hid (Below w.heap.size w v1) := hb11.out.trans (hB.mono hb11.out.size)
  have L18 : Hid (MidC (wo5.heap.size) (v1.heap.size) v1 (vap) ([(2 : Int)]) (vcp)) := hVp.midc
  have L19 : Hid (MidC (wo5.heap.size) (v1.heap.size) v1 (gap) ([5, 6]) (gcp)) := hGp.midc
  clear hB hb11 B7 B8 B9 L10 hVp hGp
  clear L16
  have n20 := lit_mid v1 3 [6, 7] 2 rfl
  simp only [List.map_cons, List.map_nil] at n20
  go_wp2_with fail
  obtain ⟨wo21, hwo21⟩ : ∃ wo21, wo21 = (v1.alloc (.cells #[.int .i64 6, .int .i64 7] 3)) := ⟨_, rfl⟩
  rw [← hwo21]
  have z22 : v1.heap.size + 1 ≤ wo21.heap.size := by rw [hwo21]; simp only [World.size_alloc]; omega
  have B23 : Hid (Abx wo21 (w.heap.size) (.bool c1) (.slice sa1 sz1.length sc1) (.slice da1 dz1.length dc1)) := by rw [hwo21]; exact (B13.out.al (.cells #[.int .i64 6, .int .i64 7] 3))
  have B24 : Hid (Abx wo21 (w.heap.size + 1) (.bool c2) (.slice sa2 sz2.length sc2) (.slice da2 dz2.length dc2)) := by rw [hwo21]; exact (B14.out.al (.cells #[.int .i64 6, .int .i64 7] 3))
  have B25 : Hid (Abx wo21 (w.heap.size + 1 + 1) (.bool c3) (.slice sa3 sz3.length sc3) (.slice da3 dz3.length dc3)) := by rw [hwo21]; exact (B15.out.al (.cells #[.int .i64 6, .int .i64 7] 3))
  have L26 : Hid (MidC (wo5.heap.size) (v1.heap.size) wo21 (vap) ([(2 : Int)]) (vcp)) := by rw [hwo21]; exact (L18.out.al (by omega) (.cells #[.int .i64 6, .int .i64 7] 3))
  have L27 : Hid (MidC (wo5.heap.size) (v1.heap.size) wo21 (gap) ([5, 6]) (gcp)) := by rw [hwo21]; exact (L19.out.al (by omega) (.cells #[.int .i64 6, .int .i64 7] 3))
  have L28 : Hid (MidC (v1.heap.size) (v1.heap.size + 1) wo21 (some ⟨v1.heap.size, 0, none⟩) ([6, 7]) (2)) := by rw [hwo21]; exact n20
  have hb29 : Hid (Below w.heap.size w wo21) := by rw [hwo21]; exact (hb17.out.alloc (by omega) (.cells #[.int .i64 6, .int .i64 7] 3))
  have zwo21 : w.heap.size ≤ wo21.heap.size := hb29.out.size
  clear hwo21 n20 hb17 B13 B14 B15 L18 L19
  refine (vec_c (some ⟨v1.heap.size, 0, none⟩) 2 [6, 7] (by simp) _ (L28.out.is (by omega)).1).mono ?_
  rintro e v2 ⟨vaq, vcq, gaq, gcq, rfl, hVq, hGq, hB⟩
  have z30 : wo21.heap.size ≤ v2.heap.size := hB.size
  have B31 : Hid (Abx v2 (w.heap.size) (.bool c1) (.slice sa1 sz1.length sc1) (.slice da1 dz1.length dc1)) := B23.out.go hB
  have B32 : Hid (Abx v2 (w.heap.size + 1) (.bool c2) (.slice sa2 sz2.length sc2) (.slice da2 dz2.length dc2)) := B24.out.go hB
  have B33 : Hid (Abx v2 (w.heap.size + 1 + 1) (.bool c3) (.slice sa3 sz3.length sc3) (.slice da3 dz3.length dc3)) := B25.out.go hB
  have L34 : Hid (MidC (wo5.heap.size) (v1.heap.size) v2 (vap) ([(2 : Int)]) (vcp)) := L26.out.go (by omega) hB
  have L35 : Hid (MidC (wo5.heap.size) (v1.heap.size) v2 (gap) ([5, 6]) (gcp)) := L27.out.go (by omega) hB
  have L36 : Hid (MidC (v1.heap.size) (v1.heap.size + 1) v2 (some ⟨v1.heap.size, 0, none⟩) ([6, 7]) (2)) := L28.out.go (by omega) hB
  have hb37 : Hid (Below w.heap.size w v2) := hb29.out.trans (hB.mono hb29.out.size)
  have L38 : Hid (MidC (wo21.heap.size) (v2.heap.size) v2 (vaq) ([(2 : Int)]) (vcq)) := hVq.midc
  have L39 : Hid (MidC (wo21.heap.size) (v2.heap.size) v2 (gaq) ([6, 7]) (gcq)) := hGq.midc
  clear hB hb29 B23 B24 B25 L26 L27 L28 hVq hGq
  clear L36
  go_wp2_with fail
  refine (un_ok false vap vcp [(2 : Int)] 1 rfl gap gcp [5, 6] false vaq vcq [(2 : Int)] 1 rfl gaq gcq [6, 7] _ (by decide) (by simp) (by decide) (by simp) (L34.out.is (by omega)).1 (L35.out.is (by omega)).1 (L38.out.is (by omega)).1 (L39.out.is (by omega)).1 (lit_all (by decide)) (lit_all (by decide)) [3] [5, 6, 7] HUn (by decide)).mono ?_
  rintro e v3 ⟨f1, g1, f2, g2, rfl, hX0, hY0, hB⟩
  have z40 : v2.heap.size ≤ v3.heap.size := hB.size
  have B41 : Hid (Abx v3 (w.heap.size) (.bool c1) (.slice sa1 sz1.length sc1) (.slice da1 dz1.length dc1)) := B31.out.go hB
  have B42 : Hid (Abx v3 (w.heap.size + 1) (.bool c2) (.slice sa2 sz2.length sc2) (.slice da2 dz2.length dc2)) := B32.out.go hB
  have B43 : Hid (Abx v3 (w.heap.size + 1 + 1) (.bool c3) (.slice sa3 sz3.length sc3) (.slice da3 dz3.length dc3)) := B33.out.go hB
  have L44 : Hid (MidC (wo5.heap.size) (v1.heap.size) v3 (vap) ([(2 : Int)]) (vcp)) := L34.out.go (by omega) hB
  have L45 : Hid (MidC (wo5.heap.size) (v1.heap.size) v3 (gap) ([5, 6]) (gcp)) := L35.out.go (by omega) hB
  have L46 : Hid (MidC (wo21.heap.size) (v2.heap.size) v3 (vaq) ([(2 : Int)]) (vcq)) := L38.out.go (by omega) hB
  have L47 : Hid (MidC (wo21.heap.size) (v2.heap.size) v3 (gaq) ([6, 7]) (gcq)) := L39.out.go (by omega) hB
  have hb48 : Hid (Below w.heap.size w v3) := hb37.out.trans (hB.mono hb37.out.size)
  have L49 : Hid (MidC (v2.heap.size) (v3.heap.size) v3 (f1) ([3]) (g1)) := hX0.midc
  have L50 : Hid (MidC (v2.heap.size) (v3.heap.size) v3 (f2) ([5, 6, 7]) (g2)) := hY0.midc
  clear hB hb37 B31 B32 B33 L34 L35 L38 L39 hX0 hY0
  clear L44 L45 L46 L47
  have n51 := Abx.new v3 (.bool false) (.slice f1 1 g1) (.slice f2 3 g2)
  have l52 := (n51).c0
  have l53 := (n51).c1
  have l54 := (n51).c2
  have n55 := lit_mid (v3.alloc (.cells #[.bool false, .slice f1 1 g1, .slice f2 3 g2] 24)) 3 [5, 6, 7] 3 rfl
  simp only [World.size_alloc, List.map_cons, List.map_nil] at n55
  go_wp2_with fail
  obtain ⟨wo56, hwo56⟩ : ∃ wo56, wo56 = ((v3.alloc (.cells #[.bool false, .slice f1 1 g1, .slice f2 3 g2] 24)).alloc (.cells #[.int .i64 5, .int .i64 6, .int .i64 7] 3)) := ⟨_, rfl⟩
  rw [← hwo56]
  have z57 : v3.heap.size + 1 + 1 ≤ wo56.heap.size := by rw [hwo56]; simp only [World.size_alloc]; omega
  have B58 : Hid (Abx wo56 (w.heap.size) (.bool c1) (.slice sa1 sz1.length sc1) (.slice da1 dz1.length dc1)) := by rw [hwo56]; exact ((B41.out.al (.cells #[.bool false, .slice f1 1 g1, .slice f2 3 g2] 24)).al (.cells #[.int .i64 5, .int .i64 6, .int .i64 7] 3))
  have B59 : Hid (Abx wo56 (w.heap.size + 1) (.bool c2) (.slice sa2 sz2.length sc2) (.slice da2 dz2.length dc2)) := by rw [hwo56]; exact ((B42.out.al (.cells #[.bool false, .slice f1 1 g1, .slice f2 3 g2] 24)).al (.cells #[.int .i64 5, .int .i64 6, .int .i64 7] 3))
  have B60 : Hid (Abx wo56 (w.heap.size + 1 + 1) (.bool c3) (.slice sa3 sz3.length sc3) (.slice da3 dz3.length dc3)) := by rw [hwo56]; exact ((B43.out.al (.cells #[.bool false, .slice f1 1 g1, .slice f2 3 g2] 24)).al (.cells #[.int .i64 5, .int .i64 6, .int .i64 7] 3))
  have B61 : Hid (Abx wo56 (v3.heap.size) (.bool false) (.slice f1 1 g1) (.slice f2 3 g2)) := by rw [hwo56]; exact (n51.al (.cells #[.int .i64 5, .int .i64 6, .int .i64 7] 3))
  have L62 : Hid (MidC (v2.heap.size) (v3.heap.size) wo56 (f1) ([3]) (g1)) := by rw [hwo56]; exact ((L49.out.al (by omega) (.cells #[.bool false, .slice f1 1 g1, .slice f2 3 g2] 24)).al (by simp only [World.size_alloc]; omega) (.cells #[.int .i64 5, .int .i64 6, .int .i64 7] 3))
  have L63 : Hid (MidC (v2.heap.size) (v3.heap.size) wo56 (f2) ([5, 6, 7]) (g2)) := by rw [hwo56]; exact ((L50.out.al (by omega) (.cells #[.bool false, .slice f1 1 g1, .slice f2 3 g2] 24)).al (by simp only [World.size_alloc]; omega) (.cells #[.int .i64 5, .int .i64 6, .int .i64 7] 3))
  have L64 : Hid (MidC (v3.heap.size + 1) (v3.heap.size + 1 + 1) wo56 (some ⟨v3.heap.size + 1, 0, none⟩) ([5, 6, 7]) (3)) := by rw [hwo56]; exact n55
  have hb65 : Hid (Below w.heap.size w wo56) := by rw [hwo56]; exact ((hb48.out.alloc (by omega) (.cells #[.bool false, .slice f1 1 g1, .slice f2 3 g2] 24)).alloc (by simp only [World.size_alloc]; omega) (.cells #[.int .i64 5, .int .i64 6, .int .i64 7] 3))
  have zwo56 : w.heap.size ≤ wo56.heap.size := hb65.out.size
  clear hwo56 n51 l52 l53 l54 n55 hb48 B41 B42 B43 L49 L50
  refine (ints_any f2 g2 [5, 6, 7] (some ⟨v3.heap.size + 1, 0, none⟩) 3 [5, 6, 7] (by simp) _ _ (L63.out.is (by omega)).1 (L64.out.is (by omega)).1).mono ?_
  rintro e v4 ⟨rfl, hB⟩
  have z66 : wo56.heap.size ≤ v4.heap.size := hB.size
  have B67 : Hid (Abx v4 (w.heap.size) (.bool c1) (.slice sa1 sz1.length sc1) (.slice da1 dz1.length dc1)) := B58.out.go hB
  have B68 : Hid (Abx v4 (w.heap.size + 1) (.bool c2) (.slice sa2 sz2.length sc2) (.slice da2 dz2.length dc2)) := B59.out.go hB
  have B69 : Hid (Abx v4 (w.heap.size + 1 + 1) (.bool c3) (.slice sa3 sz3.length sc3) (.slice da3 dz3.length dc3)) := B60.out.go hB
  have B70 : Hid (Abx v4 (v3.heap.size) (.bool false) (.slice f1 1 g1) (.slice f2 3 g2)) := B61.out.go hB
  have L71 : Hid (MidC (v2.heap.size) (v3.heap.size) v4 (f1) ([3]) (g1)) := L62.out.go (by omega) hB
  have L72 : Hid (MidC (v2.heap.size) (v3.heap.size) v4 (f2) ([5, 6, 7]) (g2)) := L63.out.go (by omega) hB
  have L73 : Hid (MidC (v3.heap.size + 1) (v3.heap.size + 1 + 1) v4 (some ⟨v3.heap.size + 1, 0, none⟩) ([5, 6, 7]) (3)) := L64.out.go (by omega) hB
  have hb74 : Hid (Below w.heap.size w v4) := hb65.out.trans (hB.mono hb65.out.size)
  clear hB hb65 B58 B59 B60 B61 L62 L63 L64
  rw [eqB_true rfl]
  clear L71 L72 L73 B70
  have l75 := (B68.out).c0
  have l76 := (B68.out).c1
  have l77 := (B68.out).c2
  have l78 := (B69.out).c0
  have l79 := (B69.out).c1
  have l80 := (B69.out).c2
  go_wp2_with fail
  clear l75 l76 l77 l78 l79 l80
  refine (un_no c2 sa2 sc2 sz2 sz2.length rfl da2 dc2 dz2 c3 sa3 sc3 sz3 sz3.length rfl da3 dc3 dz3 _ x21 x22 x31 x32 ((HI2.out.1.1.below hb74.out).mono hb74.out.size) ((HI2.out.2.1.1.below hb74.out).mono hb74.out.size) ((HI3.out.1.1.below hb74.out).mono hb74.out.size) ((HI3.out.2.1.1.below hb74.out).mono hb74.out.size) HI2.out.2.2.2 HI3.out.2.2.2 HUn F1.out).mono ?_
  rintro e v5 ⟨xa1, xc1, ya1, yc1, rfl, hB⟩
  have z81 : v4.heap.size ≤ v5.heap.size := hB.size
  have B82 : Hid (Abx v5 (w.heap.size) (.bool c1) (.slice sa1 sz1.length sc1) (.slice da1 dz1.length dc1)) := B67.out.go hB
  have B83 : Hid (Abx v5 (w.heap.size + 1) (.bool c2) (.slice sa2 sz2.length sc2) (.slice da2 dz2.length dc2)) := B68.out.go hB
  have B84 : Hid (Abx v5 (w.heap.size + 1 + 1) (.bool c3) (.slice sa3 sz3.length sc3) (.slice da3 dz3.length dc3)) := B69.out.go hB
  have hb85 : Hid (Below w.heap.size w v5) := hb74.out.trans (hB.mono hb74.out.size)
  clear hB hb74 B67 B68 B69
  have n86 := Abx.new v5 (.bool false) (.slice xa1 0 xc1) (.slice ya1 0 yc1)
  have l87 := ((B82.out.al (.cells #[.bool false, .slice xa1 0 xc1, .slice ya1 0 yc1] 24))).c0
  have l88 := ((B82.out.al (.cells #[.bool false, .slice xa1 0 xc1, .slice ya1 0 yc1] 24))).c1
  have l89 := ((B82.out.al (.cells #[.bool false, .slice xa1 0 xc1, .slice ya1 0 yc1] 24))).c2
  have l90 := ((B83.out.al (.cells #[.bool false, .slice xa1 0 xc1, .slice ya1 0 yc1] 24))).c0
  have l91 := ((B83.out.al (.cells #[.bool false, .slice xa1 0 xc1, .slice ya1 0 yc1] 24))).c1
  have l92 := ((B83.out.al (.cells #[.bool false, .slice xa1 0 xc1, .slice ya1 0 yc1] 24))).c2
  go_wp2_with fail
  obtain ⟨wo93, hwo93⟩ : ∃ wo93, wo93 = (v5.alloc (.cells #[.bool false, .slice xa1 0 xc1, .slice ya1 0 yc1] 24)) := ⟨_, rfl⟩
  rw [← hwo93]
  have z94 : v5.heap.size + 1 ≤ wo93.heap.size := by rw [hwo93]; simp only [World.size_alloc]; omega
  have B95 : Hid (Abx wo93 (w.heap.size) (.bool c1) (.slice sa1 sz1.length sc1) (.slice da1 dz1.length dc1)) := by rw [hwo93]; exact (B82.out.al (.cells #[.bool false, .slice xa1 0 xc1, .slice ya1 0 yc1] 24))
  have B96 : Hid (Abx wo93 (w.heap.size + 1) (.bool c2) (.slice sa2 sz2.length sc2) (.slice da2 dz2.length dc2)) := by rw [hwo93]; exact (B83.out.al (.cells #[.bool false, .slice xa1 0 xc1, .slice ya1 0 yc1] 24))
  have B97 : Hid (Abx wo93 (w.heap.size + 1 + 1) (.bool c3) (.slice sa3 sz3.length sc3) (.slice da3 dz3.length dc3)) := by rw [hwo93]; exact (B84.out.al (.cells #[.bool false, .slice xa1 0 xc1, .slice ya1 0 yc1] 24))
  have B98 : Hid (Abx wo93 (v5.heap.size) (.bool false) (.slice xa1 0 xc1) (.slice ya1 0 yc1)) := by rw [hwo93]; exact n86
  have hb99 : Hid (Below w.heap.size w wo93) := by rw [hwo93]; exact (hb85.out.alloc (by omega) (.cells #[.bool false, .slice xa1 0 xc1, .slice ya1 0 yc1] 24))
  have zwo93 : w.heap.size ≤ wo93.heap.size := hb99.out.size
  clear hwo93 n86 l87 l88 l89 l90 l91 l92 hb85 B82 B83 B84
  have h2 := HWo c1 sa1 sc1 sz1 da1 dc1 dz1 c2 sa2 sc2 sz2 da2 dc2 dz2 _ x11 x12 x21 x22 ((HI1.out.1.1.below hb99.out).mono hb99.out.size) ((HI1.out.2.1.1.below hb99.out).mono hb99.out.size) ((HI2.out.1.1.below hb99.out).mono hb99.out.size) ((HI2.out.2.1.1.below hb99.out).mono hb99.out.size) HI1.out.2.2.2 HI2.out.2.2.2
  rw [← HN2.out.1, ← HN2.out.2.1, ← HN2.out.2.2.1, ← HN2.out.2.2.2] at h2
  refine (h2).mono ?_
  rintro e v6 ⟨xa2, xc2, ya2, yc2, rfl, hX2, hY2, hB⟩
  have z100 : wo93.heap.size ≤ v6.heap.size := hB.size
  have B101 : Hid (Abx v6 (w.heap.size) (.bool c1) (.slice sa1 sz1.length sc1) (.slice da1 dz1.length dc1)) := B95.out.go hB
  have B102 : Hid (Abx v6 (w.heap.size + 1) (.bool c2) (.slice sa2 sz2.length sc2) (.slice da2 dz2.length dc2)) := B96.out.go hB
  have B103 : Hid (Abx v6 (w.heap.size + 1 + 1) (.bool c3) (.slice sa3 sz3.length sc3) (.slice da3 dz3.length dc3)) := B97.out.go hB
  have B104 : Hid (Abx v6 (v5.heap.size) (.bool false) (.slice xa1 0 xc1) (.slice ya1 0 yc1)) := B98.out.go hB
  have hb105 : Hid (Below w.heap.size w v6) := hb99.out.trans (hB.mono hb99.out.size)
  have L106 : Hid (MidC (wo93.heap.size) (v6.heap.size) v6 (xa2) (S2) (xc2)) := hX2.midc
  have L107 : Hid (MidC (wo93.heap.size) (v6.heap.size) v6 (ya2) (D2) (yc2)) := hY2.midc
  clear hB hb99 B95 B96 B97 B98 hX2 hY2
  clear h2
  have n108 := Abx.new v6 (.bool C2) (.slice xa2 S2.length xc2) (.slice ya2 D2.length yc2)
  have l109 := ((B101.out.al (.cells #[.bool C2, .slice xa2 S2.length xc2, .slice ya2 D2.length yc2] 24))).c0
  have l110 := ((B101.out.al (.cells #[.bool C2, .slice xa2 S2.length xc2, .slice ya2 D2.length yc2] 24))).c1
  have l111 := ((B101.out.al (.cells #[.bool C2, .slice xa2 S2.length xc2, .slice ya2 D2.length yc2] 24))).c2
  have l112 := ((B102.out.al (.cells #[.bool C2, .slice xa2 S2.length xc2, .slice ya2 D2.length yc2] 24))).c0
  have l113 := ((B102.out.al (.cells #[.bool C2, .slice xa2 S2.length xc2, .slice ya2 D2.length yc2] 24))).c1
  have l114 := ((B102.out.al (.cells #[.bool C2, .slice xa2 S2.length xc2, .slice ya2 D2.length yc2] 24))).c2
  go_wp2_with fail
  obtain ⟨wo115, hwo115⟩ : ∃ wo115, wo115 = (v6.alloc (.cells #[.bool C2, .slice xa2 S2.length xc2, .slice ya2 D2.length yc2] 24)) := ⟨_, rfl⟩
  rw [← hwo115]
  have z116 : v6.heap.size + 1 ≤ wo115.heap.size := by rw [hwo115]; simp only [World.size_alloc]; omega
  have B117 : Hid (Abx wo115 (w.heap.size) (.bool c1) (.slice sa1 sz1.length sc1) (.slice da1 dz1.length dc1)) := by rw [hwo115]; exact (B101.out.al (.cells #[.bool C2, .slice xa2 S2.length xc2, .slice ya2 D2.length yc2] 24))
  have B118 : Hid (Abx wo115 (w.heap.size + 1) (.bool c2) (.slice sa2 sz2.length sc2) (.slice da2 dz2.length dc2)) := by rw [hwo115]; exact (B102.out.al (.cells #[.bool C2, .slice xa2 S2.length xc2, .slice ya2 D2.length yc2] 24))
  have B119 : Hid (Abx wo115 (w.heap.size + 1 + 1) (.bool c3) (.slice sa3 sz3.length sc3) (.slice da3 dz3.length dc3)) := by rw [hwo115]; exact (B103.out.al (.cells #[.bool C2, .slice xa2 S2.length xc2, .slice ya2 D2.length yc2] 24))
  have B120 : Hid (Abx wo115 (v5.heap.size) (.bool false) (.slice xa1 0 xc1) (.slice ya1 0 yc1)) := by rw [hwo115]; exact (B104.out.al (.cells #[.bool C2, .slice xa2 S2.length xc2, .slice ya2 D2.length yc2] 24))
  have B121 : Hid (Abx wo115 (v6.heap.size) (.bool C2) (.slice xa2 S2.length xc2) (.slice ya2 D2.length yc2)) := by rw [hwo115]; exact n108
  have L122 : Hid (MidC (wo93.heap.size) (v6.heap.size) wo115 (xa2) (S2) (xc2)) := by rw [hwo115]; exact (L106.out.al (by omega) (.cells #[.bool C2, .slice xa2 S2.length xc2, .slice ya2 D2.length yc2] 24))
  have L123 : Hid (MidC (wo93.heap.size) (v6.heap.size) wo115 (ya2) (D2) (yc2)) := by rw [hwo115]; exact (L107.out.al (by omega) (.cells #[.bool C2, .slice xa2 S2.length xc2, .slice ya2 D2.length yc2] 24))
  have hb124 : Hid (Below w.heap.size w wo115) := by rw [hwo115]; exact (hb105.out.alloc (by omega) (.cells #[.bool C2, .slice xa2 S2.length xc2, .slice ya2 D2.length yc2] 24))
  have zwo115 : w.heap.size ≤ wo115.heap.size := hb124.out.size
  clear hwo115 n108 l109 l110 l111 l112 l113 l114 hb105 B101 B102 B103 B104 L106 L107
  have h2 := HMt c1 sa1 sc1 sz1 da1 dc1 dz1 c2 sa2 sc2 sz2 da2 dc2 dz2 _ x11 x12 x21 x22 ((HI1.out.1.1.below hb124.out).mono hb124.out.size) ((HI1.out.2.1.1.below hb124.out).mono hb124.out.size) ((HI2.out.1.1.below hb124.out).mono hb124.out.size) ((HI2.out.2.1.1.below hb124.out).mono hb124.out.size) HI1.out.2.2.2 HI2.out.2.2.2
  rw [← HN3.out.1, ← HN3.out.2.1, ← HN3.out.2.2.1, ← HN3.out.2.2.2] at h2
  refine (h2).mono ?_
  rintro e v7 ⟨xa3, xc3, ya3, yc3, rfl, hX3, hY3, hB⟩
  have z125 : wo115.heap.size ≤ v7.heap.size := hB.size
  have B126 : Hid (Abx v7 (w.heap.size) (.bool c1) (.slice sa1 sz1.length sc1) (.slice da1 dz1.length dc1)) := B117.out.go hB
  have B127 : Hid (Abx v7 (w.heap.size + 1) (.bool c2) (.slice sa2 sz2.length sc2) (.slice da2 dz2.length dc2)) := B118.out.go hB
  have B128 : Hid (Abx v7 (w.heap.size + 1 + 1) (.bool c3) (.slice sa3 sz3.length sc3) (.slice da3 dz3.length dc3)) := B119.out.go hB
  have B129 : Hid (Abx v7 (v5.heap.size) (.bool false) (.slice xa1 0 xc1) (.slice ya1 0 yc1)) := B120.out.go hB
  have B130 : Hid (Abx v7 (v6.heap.size) (.bool C2) (.slice xa2 S2.length xc2) (.slice ya2 D2.length yc2)) := B121.out.go hB
  have L131 : Hid (MidC (wo93.heap.size) (v6.heap.size) v7 (xa2) (S2) (xc2)) := L122.out.go (by omega) hB
  have L132 : Hid (MidC (wo93.heap.size) (v6.heap.size) v7 (ya2) (D2) (yc2)) := L123.out.go (by omega) hB
  have hb133 : Hid (Below w.heap.size w v7) := hb124.out.trans (hB.mono hb124.out.size)
  have L134 : Hid (MidC (wo115.heap.size) (v7.heap.size) v7 (xa3) (S3) (xc3)) := hX3.midc
  have L135 : Hid (MidC (wo115.heap.size) (v7.heap.size) v7 (ya3) (D3) (yc3)) := hY3.midc
  clear hB hb124 B117 B118 B119 B120 B121 L122 L123 hX3 hY3
  clear h2
  have n136 := Abx.new v7 (.bool C3) (.slice xa3 S3.length xc3) (.slice ya3 D3.length yc3)
  go_wp2_with fail
  obtain ⟨wo137, hwo137⟩ : ∃ wo137, wo137 = (v7.alloc (.cells #[.bool C3, .slice xa3 S3.length xc3, .slice ya3 D3.length yc3] 24)) := ⟨_, rfl⟩
  rw [← hwo137]
  have z138 : v7.heap.size + 1 ≤ wo137.heap.size := by rw [hwo137]; simp only [World.size_alloc]; omega
  have B139 : Hid (Abx wo137 (w.heap.size) (.bool c1) (.slice sa1 sz1.length sc1) (.slice da1 dz1.length dc1)) := by rw [hwo137]; exact (B126.out.al (.cells #[.bool C3, .slice xa3 S3.length xc3, .slice ya3 D3.length yc3] 24))
  have B140 : Hid (Abx wo137 (w.heap.size + 1) (.bool c2) (.slice sa2 sz2.length sc2) (.slice da2 dz2.length dc2)) := by rw [hwo137]; exact (B127.out.al (.cells #[.bool C3, .slice xa3 S3.length xc3, .slice ya3 D3.length yc3] 24))
  have B141 : Hid (Abx wo137 (w.heap.size + 1 + 1) (.bool c3) (.slice sa3 sz3.length sc3) (.slice da3 dz3.length dc3)) := by rw [hwo137]; exact (B128.out.al (.cells #[.bool C3, .slice xa3 S3.length xc3, .slice ya3 D3.length yc3] 24))
  have B142 : Hid (Abx wo137 (v5.heap.size) (.bool false) (.slice xa1 0 xc1) (.slice ya1 0 yc1)) := by rw [hwo137]; exact (B129.out.al (.cells #[.bool C3, .slice xa3 S3.length xc3, .slice ya3 D3.length yc3] 24))
  have B143 : Hid (Abx wo137 (v6.heap.size) (.bool C2) (.slice xa2 S2.length xc2) (.slice ya2 D2.length yc2)) := by rw [hwo137]; exact (B130.out.al (.cells #[.bool C3, .slice xa3 S3.length xc3, .slice ya3 D3.length yc3] 24))
  have B144 : Hid (Abx wo137 (v7.heap.size) (.bool C3) (.slice xa3 S3.length xc3) (.slice ya3 D3.length yc3)) := by rw [hwo137]; exact n136
  have L145 : Hid (MidC (wo93.heap.size) (v6.heap.size) wo137 (xa2) (S2) (xc2)) := by rw [hwo137]; exact (L131.out.al (by omega) (.cells #[.bool C3, .slice xa3 S3.length xc3, .slice ya3 D3.length yc3] 24))
  have L146 : Hid (MidC (wo93.heap.size) (v6.heap.size) wo137 (ya2) (D2) (yc2)) := by rw [hwo137]; exact (L132.out.al (by omega) (.cells #[.bool C3, .slice xa3 S3.length xc3, .slice ya3 D3.length yc3] 24))
  have L147 : Hid (MidC (wo115.heap.size) (v7.heap.size) wo137 (xa3) (S3) (xc3)) := by rw [hwo137]; exact (L134.out.al (by omega) (.cells #[.bool C3, .slice xa3 S3.length xc3, .slice ya3 D3.length yc3] 24))
  have L148 : Hid (MidC (wo115.heap.size) (v7.heap.size) wo137 (ya3) (D3) (yc3)) := by rw [hwo137]; exact (L135.out.al (by omega) (.cells #[.bool C3, .slice xa3 S3.length xc3, .slice ya3 D3.length yc3] 24))
  have hb149 : Hid (Below w.heap.size w wo137) := by rw [hwo137]; exact (hb133.out.alloc (by omega) (.cells #[.bool C3, .slice xa3 S3.length xc3, .slice ya3 D3.length yc3] 24))
  have zwo137 : w.heap.size ≤ wo137.heap.size := hb149.out.size
  clear hwo137 n136 hb133 B126 B127 B128 B129 B130 L131 L132 L134 L135
  go_wp2_with fail
  go_ret
  exact ⟨rfl, hb149.out⟩
set_option maxRecDepth 100000 in
set_option maxHeartbeats 8000000 in
theorem algebra_no2 (HWo : CWo) (HMt : CMt) (HUn : CUn) (c1 : Bool) (sa1 : Option Addr) (sc1 : Nat) (sz1 : List Int) (da1 : Option Addr) (dc1 : Nat) (dz1 : List Int) (c2 : Bool) (sa2 : Option Addr) (sc2 : Nat) (sz2 : List Int) (da2 : Option Addr) (dc2 : Nat) (dz2 : List Int) (c3 : Bool) (sa3 : Option Addr) (sc3 : Nat) (sz3 : List Int) (da3 : Option Addr) (dc3 : Nat) (dz3 : List Int) (w : World) (w8 : IsArrD w sa1 sz1 sc1 da1 dz1 dc1) (w9 : IsArrD w sa2 sz2 sc2 da2 dz2 dc2) (w10 : IsArrD w sa3 sz3 sc3 da3 dz3 dc3) (F1 : Hid (unE c2 sz2 dz2 c3 sz3 dz3 = 0)) (F2 : Hid (lsE c1 sz1 dz1 c2 sz2 dz2 ≠ 0)) :
    Calls Try.prog 5 #[.agg #[.bool c1, .slice sa1 sz1.length sc1, .slice da1 dz1.length dc1], .agg #[.bool c2, .slice sa2 sz2.length sc2, .slice da2 dz2.length dc2], .agg #[.bool c3, .slice sa3 sz3.length sc3, .slice da3 dz3.length dc3]] w fun e w' => e = .returned (.bool true) ∧ Below w.heap.size w w' := by
  obtain ⟨U, hU⟩ : ∃ U, U = unD c2 dz2 c3 dz3 := ⟨_, rfl⟩
  obtain ⟨hl0, hc0, hu0⟩ := unE_zero.1 F1.out
  obtain ⟨fb, fc, lb, lc⟩ := lsE_zero.1 hl0
  have hd2 : dz2.length ≤ 4096 := (flawE_short fb).2
  have hd3 : dz3.length ≤ 4096 := (flawE_short fc).2
  have HU : Hid (unE c2 sz2 dz2 c3 sz3 dz3 = 0 ∧ [((unD c2 dz2 c3 dz3).length : Int)] = [(U.length : Int)] ∧ unD c2 dz2 c3 dz3 = U) := by rw [hU]; exact ⟨F1.out, rfl, rfl⟩
  have hUl : U.length ≤ 4096 := by rw [hU]; exact hu0
  have HFB : Hid (flawE c2 sz2 dz2 = 0 ∧ flawE c3 sz3 dz3 = 0 ∧ sz2.length = 1 ∧ sz3.length = 1 ∧ c2 = c3 ∧ flawE c2 [(U.length : Int)] U = 0) := ⟨fb, fc, lb, lc, hc0, by rw [hU]; exact un_flaw F1.out⟩
  clear hl0 fb fc lb lc hc0 hu0
  clear hU
  obtain ⟨x11, x12, x3, x4, s64, T⟩ := w8
  have HI1 : Hid (IsC w.heap.size w sa1 sz1 sc1 ∧ IsC w.heap.size w da1 dz1 dc1 ∧ (∀ j, In64 (nth sz1 j)) ∧ ∀ j, In64 (nth dz1 j)) := ⟨x3, x4, s64, T⟩
  clear x3 x4 T s64
  obtain ⟨x21, x22, x3, x4, s64, T⟩ := w9
  have HI2 : Hid (IsC w.heap.size w sa2 sz2 sc2 ∧ IsC w.heap.size w da2 dz2 dc2 ∧ (∀ j, In64 (nth sz2 j)) ∧ ∀ j, In64 (nth dz2 j)) := ⟨x3, x4, s64, T⟩
  clear x3 x4 T s64
  obtain ⟨x31, x32, x3, x4, s64, T⟩ := w10
  have HI3 : Hid (IsC w.heap.size w sa3 sz3 sc3 ∧ IsC w.heap.size w da3 dz3 dc3 ∧ (∀ j, In64 (nth sz3 j)) ∧ ∀ j, In64 (nth dz3 j)) := ⟨x3, x4, s64, T⟩
  clear x3 x4 T s64
  have n1 := Abx.new w (.bool c1) (.slice sa1 sz1.length sc1) (.slice da1 dz1.length dc1)
  have n2 := Abx.new (w.alloc (.cells #[.bool c1, .slice sa1 sz1.length sc1, .slice da1 dz1.length dc1] 24)) (.bool c2) (.slice sa2 sz2.length sc2) (.slice da2 dz2.length dc2)
  simp only [World.size_alloc] at n2
  have n3 := Abx.new ((w.alloc (.cells #[.bool c1, .slice sa1 sz1.length sc1, .slice da1 dz1.length dc1] 24)).alloc (.cells #[.bool c2, .slice sa2 sz2.length sc2, .slice da2 dz2.length dc2] 24)) (.bool c3) (.slice sa3 sz3.length sc3) (.slice da3 dz3.length dc3)
  simp only [World.size_alloc] at n3
  have n4 := lit_mid (((w.alloc (.cells #[.bool c1, .slice sa1 sz1.length sc1, .slice da1 dz1.length dc1] 24)).alloc (.cells #[.bool c2, .slice sa2 sz2.length sc2, .slice da2 dz2.length dc2] 24)).alloc (.cells #[.bool c3, .slice sa3 sz3.length sc3, .slice da3 dz3.length dc3] 24)) 3 [5, 6] 2 rfl
  simp only [World.size_alloc, List.map_cons, List.map_nil] at n4
  go_enter Try.func5, Try.ntmps5
  go_wp2_with fail
  obtain ⟨wo5, hwo5⟩ : ∃ wo5, wo5 = ((((w.alloc (.cells #[.bool c1, .slice sa1 sz1.length sc1, .slice da1 dz1.length dc1] 24)).alloc (.cells #[.bool c2, .slice sa2 sz2.length sc2, .slice da2 dz2.length dc2] 24)).alloc (.cells #[.bool c3, .slice sa3 sz3.length sc3, .slice da3 dz3.length dc3] 24)).alloc (.cells #[.int .i64 5, .int .i64 6] 3)) := ⟨_, rfl⟩
  rw [← hwo5]
  have z6 : w.heap.size + 1 + 1 + 1 + 1 ≤ wo5.heap.size := by rw [hwo5]; simp only [World.size_alloc]; omega
  have B7 : Hid (Abx wo5 (w.heap.size) (.bool c1) (.slice sa1 sz1.length sc1) (.slice da1 dz1.length dc1)) := by rw [hwo5]; exact (((n1.al (.cells #[.bool c2, .slice sa2 sz2.length sc2, .slice da2 dz2.length dc2] 24)).al (.cells #[.bool c3, .slice sa3 sz3.length sc3, .slice da3 dz3.length dc3] 24)).al (.cells #[.int .i64 5, .int .i64 6] 3))
  have B8 : Hid (Abx wo5 (w.heap.size + 1) (.bool c2) (.slice sa2 sz2.length sc2) (.slice da2 dz2.length dc2)) := by rw [hwo5]; exact ((n2.al (.cells #[.bool c3, .slice sa3 sz3.length sc3, .slice da3 dz3.length dc3] 24)).al (.cells #[.int .i64 5, .int .i64 6] 3))
  have B9 : Hid (Abx wo5 (w.heap.size + 1 + 1) (.bool c3) (.slice sa3 sz3.length sc3) (.slice da3 dz3.length dc3)) := by rw [hwo5]; exact (n3.al (.cells #[.int .i64 5, .int .i64 6] 3))
  have L10 : Hid (MidC (w.heap.size + 1 + 1 + 1) (w.heap.size + 1 + 1 + 1 + 1) wo5 (some ⟨w.heap.size + 1 + 1 + 1, 0, none⟩) ([5, 6]) (2)) := by rw [hwo5]; exact n4
  have hb11 : Hid (Below w.heap.size w wo5) := by rw [hwo5]; exact (((((Below.refl w.heap.size w).alloc (by omega) (.cells #[.bool c1, .slice sa1 sz1.length sc1, .slice da1 dz1.length dc1] 24)).alloc (by simp only [World.size_alloc]; omega) (.cells #[.bool c2, .slice sa2 sz2.length sc2, .slice da2 dz2.length dc2] 24)).alloc (by simp only [World.size_alloc]; omega) (.cells #[.bool c3, .slice sa3 sz3.length sc3, .slice da3 dz3.length dc3] 24)).alloc (by simp only [World.size_alloc]; omega) (.cells #[.int .i64 5, .int .i64 6] 3))
  have zwo5 : w.heap.size ≤ wo5.heap.size := hb11.out.size
  clear hwo5 n1 n2 n3 n4
  refine (vec_c (some ⟨w.heap.size + 1 + 1 + 1, 0, none⟩) 2 [5, 6] (by simp) _ (L10.out.is (by omega)).1).mono ?_
  rintro e v1 ⟨vap, vcp, gap, gcp, rfl, hVp, hGp, hB⟩
  have z12 : wo5.heap.size ≤ v1.heap.size := hB.size
  have B13 : Hid (Abx v1 (w.heap.size) (.bool c1) (.slice sa1 sz1.length sc1) (.slice da1 dz1.length dc1)) := B7.out.go hB
  have B14 : Hid (Abx v1 (w.heap.size + 1) (.bool c2) (.slice sa2 sz2.length sc2) (.slice da2 dz2.length dc2)) := B8.out.go hB
  have B15 : Hid (Abx v1 (w.heap.size + 1 + 1) (.bool c3) (.slice sa3 sz3.length sc3) (.slice da3 dz3.length dc3)) := B9.out.go hB
  have L16 : Hid (MidC (w.heap.size + 1 + 1 + 1) (w.heap.size + 1 + 1 + 1 + 1) v1 (some ⟨w.heap.size + 1 + 1 + 1, 0, none⟩) ([5, 6]) (2)) := L10.out.go (by omega) hB
  have hb17 : Hid (Below w.heap.size w v1) := hb11.out.trans (hB.mono hb11.out.size)
  have L18 : Hid (MidC (wo5.heap.size) (v1.heap.size) v1 (vap) ([(2 : Int)]) (vcp)) := hVp.midc
  have L19 : Hid (MidC (wo5.heap.size) (v1.heap.size) v1 (gap) ([5, 6]) (gcp)) := hGp.midc
  clear hB hb11 B7 B8 B9 L10 hVp hGp
  clear L16
  have n20 := lit_mid v1 3 [6, 7] 2 rfl
  simp only [List.map_cons, List.map_nil] at n20
  go_wp2_with fail
  obtain ⟨wo21, hwo21⟩ : ∃ wo21, wo21 = (v1.alloc (.cells #[.int .i64 6, .int .i64 7] 3)) := ⟨_, rfl⟩
  rw [← hwo21]
  have z22 : v1.heap.size + 1 ≤ wo21.heap.size := by rw [hwo21]; simp only [World.size_alloc]; omega
  have B23 : Hid (Abx wo21 (w.heap.size) (.bool c1) (.slice sa1 sz1.length sc1) (.slice da1 dz1.length dc1)) := by rw [hwo21]; exact (B13.out.al (.cells #[.int .i64 6, .int .i64 7] 3))
  have B24 : Hid (Abx wo21 (w.heap.size + 1) (.bool c2) (.slice sa2 sz2.length sc2) (.slice da2 dz2.length dc2)) := by rw [hwo21]; exact (B14.out.al (.cells #[.int .i64 6, .int .i64 7] 3))
  have B25 : Hid (Abx wo21 (w.heap.size + 1 + 1) (.bool c3) (.slice sa3 sz3.length sc3) (.slice da3 dz3.length dc3)) := by rw [hwo21]; exact (B15.out.al (.cells #[.int .i64 6, .int .i64 7] 3))
  have L26 : Hid (MidC (wo5.heap.size) (v1.heap.size) wo21 (vap) ([(2 : Int)]) (vcp)) := by rw [hwo21]; exact (L18.out.al (by omega) (.cells #[.int .i64 6, .int .i64 7] 3))
  have L27 : Hid (MidC (wo5.heap.size) (v1.heap.size) wo21 (gap) ([5, 6]) (gcp)) := by rw [hwo21]; exact (L19.out.al (by omega) (.cells #[.int .i64 6, .int .i64 7] 3))
  have L28 : Hid (MidC (v1.heap.size) (v1.heap.size + 1) wo21 (some ⟨v1.heap.size, 0, none⟩) ([6, 7]) (2)) := by rw [hwo21]; exact n20
  have hb29 : Hid (Below w.heap.size w wo21) := by rw [hwo21]; exact (hb17.out.alloc (by omega) (.cells #[.int .i64 6, .int .i64 7] 3))
  have zwo21 : w.heap.size ≤ wo21.heap.size := hb29.out.size
  clear hwo21 n20 hb17 B13 B14 B15 L18 L19
  refine (vec_c (some ⟨v1.heap.size, 0, none⟩) 2 [6, 7] (by simp) _ (L28.out.is (by omega)).1).mono ?_
  rintro e v2 ⟨vaq, vcq, gaq, gcq, rfl, hVq, hGq, hB⟩
  have z30 : wo21.heap.size ≤ v2.heap.size := hB.size
  have B31 : Hid (Abx v2 (w.heap.size) (.bool c1) (.slice sa1 sz1.length sc1) (.slice da1 dz1.length dc1)) := B23.out.go hB
  have B32 : Hid (Abx v2 (w.heap.size + 1) (.bool c2) (.slice sa2 sz2.length sc2) (.slice da2 dz2.length dc2)) := B24.out.go hB
  have B33 : Hid (Abx v2 (w.heap.size + 1 + 1) (.bool c3) (.slice sa3 sz3.length sc3) (.slice da3 dz3.length dc3)) := B25.out.go hB
  have L34 : Hid (MidC (wo5.heap.size) (v1.heap.size) v2 (vap) ([(2 : Int)]) (vcp)) := L26.out.go (by omega) hB
  have L35 : Hid (MidC (wo5.heap.size) (v1.heap.size) v2 (gap) ([5, 6]) (gcp)) := L27.out.go (by omega) hB
  have L36 : Hid (MidC (v1.heap.size) (v1.heap.size + 1) v2 (some ⟨v1.heap.size, 0, none⟩) ([6, 7]) (2)) := L28.out.go (by omega) hB
  have hb37 : Hid (Below w.heap.size w v2) := hb29.out.trans (hB.mono hb29.out.size)
  have L38 : Hid (MidC (wo21.heap.size) (v2.heap.size) v2 (vaq) ([(2 : Int)]) (vcq)) := hVq.midc
  have L39 : Hid (MidC (wo21.heap.size) (v2.heap.size) v2 (gaq) ([6, 7]) (gcq)) := hGq.midc
  clear hB hb29 B23 B24 B25 L26 L27 L28 hVq hGq
  clear L36
  go_wp2_with fail
  refine (un_ok false vap vcp [(2 : Int)] 1 rfl gap gcp [5, 6] false vaq vcq [(2 : Int)] 1 rfl gaq gcq [6, 7] _ (by decide) (by simp) (by decide) (by simp) (L34.out.is (by omega)).1 (L35.out.is (by omega)).1 (L38.out.is (by omega)).1 (L39.out.is (by omega)).1 (lit_all (by decide)) (lit_all (by decide)) [3] [5, 6, 7] HUn (by decide)).mono ?_
  rintro e v3 ⟨f1, g1, f2, g2, rfl, hX0, hY0, hB⟩
  have z40 : v2.heap.size ≤ v3.heap.size := hB.size
  have B41 : Hid (Abx v3 (w.heap.size) (.bool c1) (.slice sa1 sz1.length sc1) (.slice da1 dz1.length dc1)) := B31.out.go hB
  have B42 : Hid (Abx v3 (w.heap.size + 1) (.bool c2) (.slice sa2 sz2.length sc2) (.slice da2 dz2.length dc2)) := B32.out.go hB
  have B43 : Hid (Abx v3 (w.heap.size + 1 + 1) (.bool c3) (.slice sa3 sz3.length sc3) (.slice da3 dz3.length dc3)) := B33.out.go hB
  have L44 : Hid (MidC (wo5.heap.size) (v1.heap.size) v3 (vap) ([(2 : Int)]) (vcp)) := L34.out.go (by omega) hB
  have L45 : Hid (MidC (wo5.heap.size) (v1.heap.size) v3 (gap) ([5, 6]) (gcp)) := L35.out.go (by omega) hB
  have L46 : Hid (MidC (wo21.heap.size) (v2.heap.size) v3 (vaq) ([(2 : Int)]) (vcq)) := L38.out.go (by omega) hB
  have L47 : Hid (MidC (wo21.heap.size) (v2.heap.size) v3 (gaq) ([6, 7]) (gcq)) := L39.out.go (by omega) hB
  have hb48 : Hid (Below w.heap.size w v3) := hb37.out.trans (hB.mono hb37.out.size)
  have L49 : Hid (MidC (v2.heap.size) (v3.heap.size) v3 (f1) ([3]) (g1)) := hX0.midc
  have L50 : Hid (MidC (v2.heap.size) (v3.heap.size) v3 (f2) ([5, 6, 7]) (g2)) := hY0.midc
  clear hB hb37 B31 B32 B33 L34 L35 L38 L39 hX0 hY0
  clear L44 L45 L46 L47
  have n51 := Abx.new v3 (.bool false) (.slice f1 1 g1) (.slice f2 3 g2)
  have l52 := (n51).c0
  have l53 := (n51).c1
  have l54 := (n51).c2
  have n55 := lit_mid (v3.alloc (.cells #[.bool false, .slice f1 1 g1, .slice f2 3 g2] 24)) 3 [5, 6, 7] 3 rfl
  simp only [World.size_alloc, List.map_cons, List.map_nil] at n55
  go_wp2_with fail
  obtain ⟨wo56, hwo56⟩ : ∃ wo56, wo56 = ((v3.alloc (.cells #[.bool false, .slice f1 1 g1, .slice f2 3 g2] 24)).alloc (.cells #[.int .i64 5, .int .i64 6, .int .i64 7] 3)) := ⟨_, rfl⟩
  rw [← hwo56]
  have z57 : v3.heap.size + 1 + 1 ≤ wo56.heap.size := by rw [hwo56]; simp only [World.size_alloc]; omega
  have B58 : Hid (Abx wo56 (w.heap.size) (.bool c1) (.slice sa1 sz1.length sc1) (.slice da1 dz1.length dc1)) := by rw [hwo56]; exact ((B41.out.al (.cells #[.bool false, .slice f1 1 g1, .slice f2 3 g2] 24)).al (.cells #[.int .i64 5, .int .i64 6, .int .i64 7] 3))
  have B59 : Hid (Abx wo56 (w.heap.size + 1) (.bool c2) (.slice sa2 sz2.length sc2) (.slice da2 dz2.length dc2)) := by rw [hwo56]; exact ((B42.out.al (.cells #[.bool false, .slice f1 1 g1, .slice f2 3 g2] 24)).al (.cells #[.int .i64 5, .int .i64 6, .int .i64 7] 3))
  have B60 : Hid (Abx wo56 (w.heap.size + 1 + 1) (.bool c3) (.slice sa3 sz3.length sc3) (.slice da3 dz3.length dc3)) := by rw [hwo56]; exact ((B43.out.al (.cells #[.bool false, .slice f1 1 g1, .slice f2 3 g2] 24)).al (.cells #[.int .i64 5, .int .i64 6, .int .i64 7] 3))
  have B61 : Hid (Abx wo56 (v3.heap.size) (.bool false) (.slice f1 1 g1) (.slice f2 3 g2)) := by rw [hwo56]; exact (n51.al (.cells #[.int .i64 5, .int .i64 6, .int .i64 7] 3))
  have L62 : Hid (MidC (v2.heap.size) (v3.heap.size) wo56 (f1) ([3]) (g1)) := by rw [hwo56]; exact ((L49.out.al (by omega) (.cells #[.bool false, .slice f1 1 g1, .slice f2 3 g2] 24)).al (by simp only [World.size_alloc]; omega) (.cells #[.int .i64 5, .int .i64 6, .int .i64 7] 3))
  have L63 : Hid (MidC (v2.heap.size) (v3.heap.size) wo56 (f2) ([5, 6, 7]) (g2)) := by rw [hwo56]; exact ((L50.out.al (by omega) (.cells #[.bool false, .slice f1 1 g1, .slice f2 3 g2] 24)).al (by simp only [World.size_alloc]; omega) (.cells #[.int .i64 5, .int .i64 6, .int .i64 7] 3))
  have L64 : Hid (MidC (v3.heap.size + 1) (v3.heap.size + 1 + 1) wo56 (some ⟨v3.heap.size + 1, 0, none⟩) ([5, 6, 7]) (3)) := by rw [hwo56]; exact n55
  have hb65 : Hid (Below w.heap.size w wo56) := by rw [hwo56]; exact ((hb48.out.alloc (by omega) (.cells #[.bool false, .slice f1 1 g1, .slice f2 3 g2] 24)).alloc (by simp only [World.size_alloc]; omega) (.cells #[.int .i64 5, .int .i64 6, .int .i64 7] 3))
  have zwo56 : w.heap.size ≤ wo56.heap.size := hb65.out.size
  clear hwo56 n51 l52 l53 l54 n55 hb48 B41 B42 B43 L49 L50
  refine (ints_any f2 g2 [5, 6, 7] (some ⟨v3.heap.size + 1, 0, none⟩) 3 [5, 6, 7] (by simp) _ _ (L63.out.is (by omega)).1 (L64.out.is (by omega)).1).mono ?_
  rintro e v4 ⟨rfl, hB⟩
  have z66 : wo56.heap.size ≤ v4.heap.size := hB.size
  have B67 : Hid (Abx v4 (w.heap.size) (.bool c1) (.slice sa1 sz1.length sc1) (.slice da1 dz1.length dc1)) := B58.out.go hB
  have B68 : Hid (Abx v4 (w.heap.size + 1) (.bool c2) (.slice sa2 sz2.length sc2) (.slice da2 dz2.length dc2)) := B59.out.go hB
  have B69 : Hid (Abx v4 (w.heap.size + 1 + 1) (.bool c3) (.slice sa3 sz3.length sc3) (.slice da3 dz3.length dc3)) := B60.out.go hB
  have B70 : Hid (Abx v4 (v3.heap.size) (.bool false) (.slice f1 1 g1) (.slice f2 3 g2)) := B61.out.go hB
  have L71 : Hid (MidC (v2.heap.size) (v3.heap.size) v4 (f1) ([3]) (g1)) := L62.out.go (by omega) hB
  have L72 : Hid (MidC (v2.heap.size) (v3.heap.size) v4 (f2) ([5, 6, 7]) (g2)) := L63.out.go (by omega) hB
  have L73 : Hid (MidC (v3.heap.size + 1) (v3.heap.size + 1 + 1) v4 (some ⟨v3.heap.size + 1, 0, none⟩) ([5, 6, 7]) (3)) := L64.out.go (by omega) hB
  have hb74 : Hid (Below w.heap.size w v4) := hb65.out.trans (hB.mono hb65.out.size)
  clear hB hb65 B58 B59 B60 B61 L62 L63 L64
  rw [eqB_true rfl]
  clear L71 L72 L73 B70
  have l75 := (B68.out).c0
  have l76 := (B68.out).c1
  have l77 := (B68.out).c2
  have l78 := (B69.out).c0
  have l79 := (B69.out).c1
  have l80 := (B69.out).c2
  go_wp2_with fail
  clear l75 l76 l77 l78 l79 l80
  refine (un_ok c2 sa2 sc2 sz2 sz2.length rfl da2 dc2 dz2 c3 sa3 sc3 sz3 sz3.length rfl da3 dc3 dz3 _ x21 x22 x31 x32 ((HI2.out.1.1.below hb74.out).mono hb74.out.size) ((HI2.out.2.1.1.below hb74.out).mono hb74.out.size) ((HI3.out.1.1.below hb74.out).mono hb74.out.size) ((HI3.out.2.1.1.below hb74.out).mono hb74.out.size) HI2.out.2.2.2 HI3.out.2.2.2 [(U.length : Int)] U HUn HU.out).mono ?_
  rintro e v5 ⟨xa1, xc1, ya1, yc1, rfl, hX1, hY1, hB⟩
  have z81 : v4.heap.size ≤ v5.heap.size := hB.size
  have B82 : Hid (Abx v5 (w.heap.size) (.bool c1) (.slice sa1 sz1.length sc1) (.slice da1 dz1.length dc1)) := B67.out.go hB
  have B83 : Hid (Abx v5 (w.heap.size + 1) (.bool c2) (.slice sa2 sz2.length sc2) (.slice da2 dz2.length dc2)) := B68.out.go hB
  have B84 : Hid (Abx v5 (w.heap.size + 1 + 1) (.bool c3) (.slice sa3 sz3.length sc3) (.slice da3 dz3.length dc3)) := B69.out.go hB
  have hb85 : Hid (Below w.heap.size w v5) := hb74.out.trans (hB.mono hb74.out.size)
  have L86 : Hid (MidC (v4.heap.size) (v5.heap.size) v5 (xa1) ([(U.length : Int)]) (xc1)) := hX1.midc
  have L87 : Hid (MidC (v4.heap.size) (v5.heap.size) v5 (ya1) (U) (yc1)) := hY1.midc
  clear hB hb74 B67 B68 B69 hX1 hY1
  have n88 := Abx.new v5 (.bool c2) (.slice xa1 1 xc1) (.slice ya1 U.length yc1)
  have l89 := ((B82.out.al (.cells #[.bool c2, .slice xa1 1 xc1, .slice ya1 U.length yc1] 24))).c0
  have l90 := ((B82.out.al (.cells #[.bool c2, .slice xa1 1 xc1, .slice ya1 U.length yc1] 24))).c1
  have l91 := ((B82.out.al (.cells #[.bool c2, .slice xa1 1 xc1, .slice ya1 U.length yc1] 24))).c2
  have l92 := ((B83.out.al (.cells #[.bool c2, .slice xa1 1 xc1, .slice ya1 U.length yc1] 24))).c0
  have l93 := ((B83.out.al (.cells #[.bool c2, .slice xa1 1 xc1, .slice ya1 U.length yc1] 24))).c1
  have l94 := ((B83.out.al (.cells #[.bool c2, .slice xa1 1 xc1, .slice ya1 U.length yc1] 24))).c2
  go_wp2_with fail
  obtain ⟨wo95, hwo95⟩ : ∃ wo95, wo95 = (v5.alloc (.cells #[.bool c2, .slice xa1 1 xc1, .slice ya1 U.length yc1] 24)) := ⟨_, rfl⟩
  rw [← hwo95]
  have z96 : v5.heap.size + 1 ≤ wo95.heap.size := by rw [hwo95]; simp only [World.size_alloc]; omega
  have B97 : Hid (Abx wo95 (w.heap.size) (.bool c1) (.slice sa1 sz1.length sc1) (.slice da1 dz1.length dc1)) := by rw [hwo95]; exact (B82.out.al (.cells #[.bool c2, .slice xa1 1 xc1, .slice ya1 U.length yc1] 24))
  have B98 : Hid (Abx wo95 (w.heap.size + 1) (.bool c2) (.slice sa2 sz2.length sc2) (.slice da2 dz2.length dc2)) := by rw [hwo95]; exact (B83.out.al (.cells #[.bool c2, .slice xa1 1 xc1, .slice ya1 U.length yc1] 24))
  have B99 : Hid (Abx wo95 (w.heap.size + 1 + 1) (.bool c3) (.slice sa3 sz3.length sc3) (.slice da3 dz3.length dc3)) := by rw [hwo95]; exact (B84.out.al (.cells #[.bool c2, .slice xa1 1 xc1, .slice ya1 U.length yc1] 24))
  have B100 : Hid (Abx wo95 (v5.heap.size) (.bool c2) (.slice xa1 1 xc1) (.slice ya1 U.length yc1)) := by rw [hwo95]; exact n88
  have L101 : Hid (MidC (v4.heap.size) (v5.heap.size) wo95 (xa1) ([(U.length : Int)]) (xc1)) := by rw [hwo95]; exact (L86.out.al (by omega) (.cells #[.bool c2, .slice xa1 1 xc1, .slice ya1 U.length yc1] 24))
  have L102 : Hid (MidC (v4.heap.size) (v5.heap.size) wo95 (ya1) (U) (yc1)) := by rw [hwo95]; exact (L87.out.al (by omega) (.cells #[.bool c2, .slice xa1 1 xc1, .slice ya1 U.length yc1] 24))
  have hb103 : Hid (Below w.heap.size w wo95) := by rw [hwo95]; exact (hb85.out.alloc (by omega) (.cells #[.bool c2, .slice xa1 1 xc1, .slice ya1 U.length yc1] 24))
  have zwo95 : w.heap.size ≤ wo95.heap.size := hb103.out.size
  clear hwo95 n88 l89 l90 l91 l92 l93 l94 hb85 B82 B83 B84 L86 L87
  refine (wo_no c1 sa1 sc1 sz1 sz1.length rfl da1 dc1 dz1 c2 sa2 sc2 sz2 sz2.length rfl da2 dc2 dz2 _ x11 x12 x21 x22 ((HI1.out.1.1.below hb103.out).mono hb103.out.size) ((HI1.out.2.1.1.below hb103.out).mono hb103.out.size) ((HI2.out.1.1.below hb103.out).mono hb103.out.size) ((HI2.out.2.1.1.below hb103.out).mono hb103.out.size) HI1.out.2.2.2 HI2.out.2.2.2 HWo F2.out).mono ?_
  rintro e v6 ⟨xa2, xc2, ya2, yc2, rfl, hB⟩
  have z104 : wo95.heap.size ≤ v6.heap.size := hB.size
  have B105 : Hid (Abx v6 (w.heap.size) (.bool c1) (.slice sa1 sz1.length sc1) (.slice da1 dz1.length dc1)) := B97.out.go hB
  have B106 : Hid (Abx v6 (w.heap.size + 1) (.bool c2) (.slice sa2 sz2.length sc2) (.slice da2 dz2.length dc2)) := B98.out.go hB
  have B107 : Hid (Abx v6 (w.heap.size + 1 + 1) (.bool c3) (.slice sa3 sz3.length sc3) (.slice da3 dz3.length dc3)) := B99.out.go hB
  have B108 : Hid (Abx v6 (v5.heap.size) (.bool c2) (.slice xa1 1 xc1) (.slice ya1 U.length yc1)) := B100.out.go hB
  have L109 : Hid (MidC (v4.heap.size) (v5.heap.size) v6 (xa1) ([(U.length : Int)]) (xc1)) := L101.out.go (by omega) hB
  have L110 : Hid (MidC (v4.heap.size) (v5.heap.size) v6 (ya1) (U) (yc1)) := L102.out.go (by omega) hB
  have hb111 : Hid (Below w.heap.size w v6) := hb103.out.trans (hB.mono hb103.out.size)
  clear hB hb103 B97 B98 B99 B100 L101 L102
  have n112 := Abx.new v6 (.bool false) (.slice xa2 0 xc2) (.slice ya2 0 yc2)
  have l113 := ((B105.out.al (.cells #[.bool false, .slice xa2 0 xc2, .slice ya2 0 yc2] 24))).c0
  have l114 := ((B105.out.al (.cells #[.bool false, .slice xa2 0 xc2, .slice ya2 0 yc2] 24))).c1
  have l115 := ((B105.out.al (.cells #[.bool false, .slice xa2 0 xc2, .slice ya2 0 yc2] 24))).c2
  have l116 := ((B106.out.al (.cells #[.bool false, .slice xa2 0 xc2, .slice ya2 0 yc2] 24))).c0
  have l117 := ((B106.out.al (.cells #[.bool false, .slice xa2 0 xc2, .slice ya2 0 yc2] 24))).c1
  have l118 := ((B106.out.al (.cells #[.bool false, .slice xa2 0 xc2, .slice ya2 0 yc2] 24))).c2
  go_wp2_with fail
  obtain ⟨wo119, hwo119⟩ : ∃ wo119, wo119 = (v6.alloc (.cells #[.bool false, .slice xa2 0 xc2, .slice ya2 0 yc2] 24)) := ⟨_, rfl⟩
  rw [← hwo119]
  have z120 : v6.heap.size + 1 ≤ wo119.heap.size := by rw [hwo119]; simp only [World.size_alloc]; omega
  have B121 : Hid (Abx wo119 (w.heap.size) (.bool c1) (.slice sa1 sz1.length sc1) (.slice da1 dz1.length dc1)) := by rw [hwo119]; exact (B105.out.al (.cells #[.bool false, .slice xa2 0 xc2, .slice ya2 0 yc2] 24))
  have B122 : Hid (Abx wo119 (w.heap.size + 1) (.bool c2) (.slice sa2 sz2.length sc2) (.slice da2 dz2.length dc2)) := by rw [hwo119]; exact (B106.out.al (.cells #[.bool false, .slice xa2 0 xc2, .slice ya2 0 yc2] 24))
  have B123 : Hid (Abx wo119 (w.heap.size + 1 + 1) (.bool c3) (.slice sa3 sz3.length sc3) (.slice da3 dz3.length dc3)) := by rw [hwo119]; exact (B107.out.al (.cells #[.bool false, .slice xa2 0 xc2, .slice ya2 0 yc2] 24))
  have B124 : Hid (Abx wo119 (v5.heap.size) (.bool c2) (.slice xa1 1 xc1) (.slice ya1 U.length yc1)) := by rw [hwo119]; exact (B108.out.al (.cells #[.bool false, .slice xa2 0 xc2, .slice ya2 0 yc2] 24))
  have B125 : Hid (Abx wo119 (v6.heap.size) (.bool false) (.slice xa2 0 xc2) (.slice ya2 0 yc2)) := by rw [hwo119]; exact n112
  have L126 : Hid (MidC (v4.heap.size) (v5.heap.size) wo119 (xa1) ([(U.length : Int)]) (xc1)) := by rw [hwo119]; exact (L109.out.al (by omega) (.cells #[.bool false, .slice xa2 0 xc2, .slice ya2 0 yc2] 24))
  have L127 : Hid (MidC (v4.heap.size) (v5.heap.size) wo119 (ya1) (U) (yc1)) := by rw [hwo119]; exact (L110.out.al (by omega) (.cells #[.bool false, .slice xa2 0 xc2, .slice ya2 0 yc2] 24))
  have hb128 : Hid (Below w.heap.size w wo119) := by rw [hwo119]; exact (hb111.out.alloc (by omega) (.cells #[.bool false, .slice xa2 0 xc2, .slice ya2 0 yc2] 24))
  have zwo119 : w.heap.size ≤ wo119.heap.size := hb128.out.size
  clear hwo119 n112 l113 l114 l115 l116 l117 l118 hb111 B105 B106 B107 B108 L109 L110
  refine (mt_no c1 sa1 sc1 sz1 sz1.length rfl da1 dc1 dz1 c2 sa2 sc2 sz2 sz2.length rfl da2 dc2 dz2 _ x11 x12 x21 x22 ((HI1.out.1.1.below hb128.out).mono hb128.out.size) ((HI1.out.2.1.1.below hb128.out).mono hb128.out.size) ((HI2.out.1.1.below hb128.out).mono hb128.out.size) ((HI2.out.2.1.1.below hb128.out).mono hb128.out.size) HI1.out.2.2.2 HI2.out.2.2.2 HMt F2.out).mono ?_
  rintro e v7 ⟨xa3, xc3, ya3, yc3, rfl, hB⟩
  have z129 : wo119.heap.size ≤ v7.heap.size := hB.size
  have B130 : Hid (Abx v7 (w.heap.size) (.bool c1) (.slice sa1 sz1.length sc1) (.slice da1 dz1.length dc1)) := B121.out.go hB
  have B131 : Hid (Abx v7 (w.heap.size + 1) (.bool c2) (.slice sa2 sz2.length sc2) (.slice da2 dz2.length dc2)) := B122.out.go hB
  have B132 : Hid (Abx v7 (w.heap.size + 1 + 1) (.bool c3) (.slice sa3 sz3.length sc3) (.slice da3 dz3.length dc3)) := B123.out.go hB
  have B133 : Hid (Abx v7 (v5.heap.size) (.bool c2) (.slice xa1 1 xc1) (.slice ya1 U.length yc1)) := B124.out.go hB
  have B134 : Hid (Abx v7 (v6.heap.size) (.bool false) (.slice xa2 0 xc2) (.slice ya2 0 yc2)) := B125.out.go hB
  have L135 : Hid (MidC (v4.heap.size) (v5.heap.size) v7 (xa1) ([(U.length : Int)]) (xc1)) := L126.out.go (by omega) hB
  have L136 : Hid (MidC (v4.heap.size) (v5.heap.size) v7 (ya1) (U) (yc1)) := L127.out.go (by omega) hB
  have hb137 : Hid (Below w.heap.size w v7) := hb128.out.trans (hB.mono hb128.out.size)
  clear hB hb128 B121 B122 B123 B124 B125 L126 L127
  have n138 := Abx.new v7 (.bool false) (.slice xa3 0 xc3) (.slice ya3 0 yc3)
  go_wp2_with fail
  obtain ⟨wo139, hwo139⟩ : ∃ wo139, wo139 = (v7.alloc (.cells #[.bool false, .slice xa3 0 xc3, .slice ya3 0 yc3] 24)) := ⟨_, rfl⟩
  rw [← hwo139]
  have z140 : v7.heap.size + 1 ≤ wo139.heap.size := by rw [hwo139]; simp only [World.size_alloc]; omega
  have B141 : Hid (Abx wo139 (w.heap.size) (.bool c1) (.slice sa1 sz1.length sc1) (.slice da1 dz1.length dc1)) := by rw [hwo139]; exact (B130.out.al (.cells #[.bool false, .slice xa3 0 xc3, .slice ya3 0 yc3] 24))
  have B142 : Hid (Abx wo139 (w.heap.size + 1) (.bool c2) (.slice sa2 sz2.length sc2) (.slice da2 dz2.length dc2)) := by rw [hwo139]; exact (B131.out.al (.cells #[.bool false, .slice xa3 0 xc3, .slice ya3 0 yc3] 24))
  have B143 : Hid (Abx wo139 (w.heap.size + 1 + 1) (.bool c3) (.slice sa3 sz3.length sc3) (.slice da3 dz3.length dc3)) := by rw [hwo139]; exact (B132.out.al (.cells #[.bool false, .slice xa3 0 xc3, .slice ya3 0 yc3] 24))
  have B144 : Hid (Abx wo139 (v5.heap.size) (.bool c2) (.slice xa1 1 xc1) (.slice ya1 U.length yc1)) := by rw [hwo139]; exact (B133.out.al (.cells #[.bool false, .slice xa3 0 xc3, .slice ya3 0 yc3] 24))
  have B145 : Hid (Abx wo139 (v6.heap.size) (.bool false) (.slice xa2 0 xc2) (.slice ya2 0 yc2)) := by rw [hwo139]; exact (B134.out.al (.cells #[.bool false, .slice xa3 0 xc3, .slice ya3 0 yc3] 24))
  have B146 : Hid (Abx wo139 (v7.heap.size) (.bool false) (.slice xa3 0 xc3) (.slice ya3 0 yc3)) := by rw [hwo139]; exact n138
  have L147 : Hid (MidC (v4.heap.size) (v5.heap.size) wo139 (xa1) ([(U.length : Int)]) (xc1)) := by rw [hwo139]; exact (L135.out.al (by omega) (.cells #[.bool false, .slice xa3 0 xc3, .slice ya3 0 yc3] 24))
  have L148 : Hid (MidC (v4.heap.size) (v5.heap.size) wo139 (ya1) (U) (yc1)) := by rw [hwo139]; exact (L136.out.al (by omega) (.cells #[.bool false, .slice xa3 0 xc3, .slice ya3 0 yc3] 24))
  have hb149 : Hid (Below w.heap.size w wo139) := by rw [hwo139]; exact (hb137.out.alloc (by omega) (.cells #[.bool false, .slice xa3 0 xc3, .slice ya3 0 yc3] 24))
  have zwo139 : w.heap.size ≤ wo139.heap.size := hb149.out.size
  clear hwo139 n138 hb137 B130 B131 B132 B133 B134 L135 L136
  go_wp2_with fail
  go_ret
  exact ⟨rfl, hb149.out⟩
set_option maxRecDepth 100000 in
set_option maxHeartbeats 8000000 in
theorem algebra_ok (HWo : CWo) (HMt : CMt) (HUn : CUn) (c1 : Bool) (sa1 : Option Addr) (sc1 : Nat) (sz1 : List Int) (da1 : Option Addr) (dc1 : Nat) (dz1 : List Int) (c2 : Bool) (sa2 : Option Addr) (sc2 : Nat) (sz2 : List Int) (da2 : Option Addr) (dc2 : Nat) (dz2 : List Int) (c3 : Bool) (sa3 : Option Addr) (sc3 : Nat) (sz3 : List Int) (da3 : Option Addr) (dc3 : Nat) (dz3 : List Int) (w : World) (w8 : IsArrD w sa1 sz1 sc1 da1 dz1 dc1) (w9 : IsArrD w sa2 sz2 sc2 da2 dz2 dc2) (w10 : IsArrD w sa3 sz3 sc3 da3 dz3 dc3) (F1 : Hid (unE c2 sz2 dz2 c3 sz3 dz3 = 0)) (F2 : Hid (lsE c1 sz1 dz1 c2 sz2 dz2 = 0)) :
    Calls Try.prog 5 #[.agg #[.bool c1, .slice sa1 sz1.length sc1, .slice da1 dz1.length dc1], .agg #[.bool c2, .slice sa2 sz2.length sc2, .slice da2 dz2.length dc2], .agg #[.bool c3, .slice sa3 sz3.length sc3, .slice da3 dz3.length dc3]] w fun e w' => e = .returned (.bool true) ∧ Below w.heap.size w w' := by
  have T1 := w8.2.2.2.2.2
  have T2 := w9.2.2.2.2.2
  have T3 := w10.2.2.2.2.2
  obtain ⟨U, hU⟩ : ∃ U, U = unD c2 dz2 c3 dz3 := ⟨_, rfl⟩
  obtain ⟨hl0, hc0, hu0⟩ := unE_zero.1 F1.out
  obtain ⟨fb, fc, lb, lc⟩ := lsE_zero.1 hl0
  have hd2 : dz2.length ≤ 4096 := (flawE_short fb).2
  have hd3 : dz3.length ≤ 4096 := (flawE_short fc).2
  have HU : Hid (unE c2 sz2 dz2 c3 sz3 dz3 = 0 ∧ [((unD c2 dz2 c3 dz3).length : Int)] = [(U.length : Int)] ∧ unD c2 dz2 c3 dz3 = U) := by rw [hU]; exact ⟨F1.out, rfl, rfl⟩
  have hUl : U.length ≤ 4096 := by rw [hU]; exact hu0
  have HFB : Hid (flawE c2 sz2 dz2 = 0 ∧ flawE c3 sz3 dz3 = 0 ∧ sz2.length = 1 ∧ sz3.length = 1 ∧ c2 = c3 ∧ flawE c2 [(U.length : Int)] U = 0) := ⟨fb, fc, lb, lc, hc0, by rw [hU]; exact un_flaw F1.out⟩
  clear hl0 fb fc lb lc hc0 hu0
  obtain ⟨fa, fb, la, lb⟩ := lsE_zero.1 F2.out
  have hd1 : dz1.length ≤ 4096 := (flawE_short fa).2
  obtain ⟨X, hX⟩ : ∃ X, X = shD c1 dz1 c2 dz2 false := ⟨_, rfl⟩
  obtain ⟨M, hM⟩ : ∃ M, M = shD c1 dz1 c2 dz2 true := ⟨_, rfl⟩
  obtain ⟨Y, hY⟩ : ∃ Y, Y = shD c1 X c3 dz3 false := ⟨_, rfl⟩
  obtain ⟨Q, hQ⟩ : ∃ Q, Q = shD c2 dz2 c3 dz3 true := ⟨_, rfl⟩
  obtain ⟨R, hR⟩ : ∃ R, R = shD c1 M c3 dz3 true := ⟨_, rfl⟩
  have hXl : X.length ≤ 4096 := by rw [hX]; exact Nat.le_trans shD_le hd1
  have hMl : M.length ≤ 4096 := by rw [hM]; exact Nat.le_trans shD_le hd1
  have hYl : Y.length ≤ 4096 := by rw [hY]; exact Nat.le_trans shD_le hXl
  have hQl : Q.length ≤ 4096 := by rw [hQ]; exact Nat.le_trans shD_le hd2
  have hRl : R.length ≤ 4096 := by rw [hR]; exact Nat.le_trans shD_le hMl
  have HS : Hid (X.length + M.length = dz1.length) := by rw [hX, hM]; exact alg_len
  have fX : flawE c1 [(X.length : Int)] X = 0 := by rw [hX]; exact sh_flaw fa
  have fM : flawE c1 [(M.length : Int)] M = 0 := by rw [hM]; exact sh_flaw fa
  have fQ : flawE c2 [(Q.length : Int)] Q = 0 := by rw [hQ]; exact sh_flaw fb
  have HX : Hid (lsE c1 sz1 dz1 c2 sz2 dz2 = 0 ∧ [((shD c1 dz1 c2 dz2 false).length : Int)] = [(X.length : Int)] ∧ shD c1 dz1 c2 dz2 false = X) := by rw [hX]; exact ⟨F2.out, rfl, rfl⟩
  have HM : Hid (lsE c1 sz1 dz1 c2 sz2 dz2 = 0 ∧ [((shD c1 dz1 c2 dz2 true).length : Int)] = [(M.length : Int)] ∧ shD c1 dz1 c2 dz2 true = M) := by rw [hM]; exact ⟨F2.out, rfl, rfl⟩
  have HY : Hid (lsE c1 [(X.length : Int)] X c3 sz3 dz3 = 0 ∧ [((shD c1 X c3 dz3 false).length : Int)] = [(Y.length : Int)] ∧ shD c1 X c3 dz3 false = Y) := by rw [hY]; exact ⟨lsE_zero.2 ⟨fX, HFB.out.2.1, rfl, HFB.out.2.2.2.1⟩, rfl, rfl⟩
  have HZ : Hid (lsE c1 sz1 dz1 c2 [(U.length : Int)] U = 0 ∧ [((shD c1 dz1 c2 U false).length : Int)] = [(Y.length : Int)] ∧ shD c1 dz1 c2 U false = Y) := by have e : shD c1 dz1 c2 U false = Y := (by rw [hY, hX, hU]; exact (alg_wo HFB.out.2.2.2.2.1).symm); exact ⟨lsE_zero.2 ⟨fa, HFB.out.2.2.2.2.2, la, rfl⟩, by rw [e], e⟩
  have HQ : Hid (lsE c2 sz2 dz2 c3 sz3 dz3 = 0 ∧ [((shD c2 dz2 c3 dz3 true).length : Int)] = [(Q.length : Int)] ∧ shD c2 dz2 c3 dz3 true = Q) := by rw [hQ]; exact ⟨lsE_zero.2 ⟨fb, HFB.out.2.1, lb, HFB.out.2.2.2.1⟩, rfl, rfl⟩
  have HR : Hid (lsE c1 [(M.length : Int)] M c3 sz3 dz3 = 0 ∧ [((shD c1 M c3 dz3 true).length : Int)] = [(R.length : Int)] ∧ shD c1 M c3 dz3 true = R) := by rw [hR]; exact ⟨lsE_zero.2 ⟨fM, HFB.out.2.1, rfl, HFB.out.2.2.2.1⟩, rfl, rfl⟩
  have HR2 : Hid (lsE c1 sz1 dz1 c2 [(Q.length : Int)] Q = 0 ∧ [((shD c1 dz1 c2 Q true).length : Int)] = [(R.length : Int)] ∧ shD c1 dz1 c2 Q true = R) := by have e : shD c1 dz1 c2 Q true = R := (by rw [hR, hM, hQ]; exact alg_mt.symm); exact ⟨lsE_zero.2 ⟨fa, fQ, la, rfl⟩, by rw [e], e⟩
  have HT : Hid ((∀ j, In64 (nth X j)) ∧ (∀ j, In64 (nth M j)) ∧ (∀ j, In64 (nth Q j)) ∧ ∀ j, In64 (nth U j)) := by rw [hX, hM, hQ, hU]; exact ⟨in64_sub shD_sub T1, in64_sub shD_sub T1, in64_sub shD_sub T2, un_64 T2 T3⟩
  clear fa fb la lb fX fM fQ hX hM hY hQ hR hU T1 T2 T3
  obtain ⟨x11, x12, x3, x4, s64, T⟩ := w8
  have HI1 : Hid (IsC w.heap.size w sa1 sz1 sc1 ∧ IsC w.heap.size w da1 dz1 dc1 ∧ (∀ j, In64 (nth sz1 j)) ∧ ∀ j, In64 (nth dz1 j)) := ⟨x3, x4, s64, T⟩
  clear x3 x4 T s64
  obtain ⟨x21, x22, x3, x4, s64, T⟩ := w9
  have HI2 : Hid (IsC w.heap.size w sa2 sz2 sc2 ∧ IsC w.heap.size w da2 dz2 dc2 ∧ (∀ j, In64 (nth sz2 j)) ∧ ∀ j, In64 (nth dz2 j)) := ⟨x3, x4, s64, T⟩
  clear x3 x4 T s64
  obtain ⟨x31, x32, x3, x4, s64, T⟩ := w10
  have HI3 : Hid (IsC w.heap.size w sa3 sz3 sc3 ∧ IsC w.heap.size w da3 dz3 dc3 ∧ (∀ j, In64 (nth sz3 j)) ∧ ∀ j, In64 (nth dz3 j)) := ⟨x3, x4, s64, T⟩
  clear x3 x4 T s64
  have n1 := Abx.new w (.bool c1) (.slice sa1 sz1.length sc1) (.slice da1 dz1.length dc1)
  have n2 := Abx.new (w.alloc (.cells #[.bool c1, .slice sa1 sz1.length sc1, .slice da1 dz1.length dc1] 24)) (.bool c2) (.slice sa2 sz2.length sc2) (.slice da2 dz2.length dc2)
  simp only [World.size_alloc] at n2
  have n3 := Abx.new ((w.alloc (.cells #[.bool c1, .slice sa1 sz1.length sc1, .slice da1 dz1.length dc1] 24)).alloc (.cells #[.bool c2, .slice sa2 sz2.length sc2, .slice da2 dz2.length dc2] 24)) (.bool c3) (.slice sa3 sz3.length sc3) (.slice da3 dz3.length dc3)
  simp only [World.size_alloc] at n3
  have n4 := lit_mid (((w.alloc (.cells #[.bool c1, .slice sa1 sz1.length sc1, .slice da1 dz1.length dc1] 24)).alloc (.cells #[.bool c2, .slice sa2 sz2.length sc2, .slice da2 dz2.length dc2] 24)).alloc (.cells #[.bool c3, .slice sa3 sz3.length sc3, .slice da3 dz3.length dc3] 24)) 3 [5, 6] 2 rfl
  simp only [World.size_alloc, List.map_cons, List.map_nil] at n4
  go_enter Try.func5, Try.ntmps5
  go_wp2_with fail
  obtain ⟨wo5, hwo5⟩ : ∃ wo5, wo5 = ((((w.alloc (.cells #[.bool c1, .slice sa1 sz1.length sc1, .slice da1 dz1.length dc1] 24)).alloc (.cells #[.bool c2, .slice sa2 sz2.length sc2, .slice da2 dz2.length dc2] 24)).alloc (.cells #[.bool c3, .slice sa3 sz3.length sc3, .slice da3 dz3.length dc3] 24)).alloc (.cells #[.int .i64 5, .int .i64 6] 3)) := ⟨_, rfl⟩
  rw [← hwo5]
  have z6 : w.heap.size + 1 + 1 + 1 + 1 ≤ wo5.heap.size := by rw [hwo5]; simp only [World.size_alloc]; omega
  have B7 : Hid (Abx wo5 (w.heap.size) (.bool c1) (.slice sa1 sz1.length sc1) (.slice da1 dz1.length dc1)) := by rw [hwo5]; exact (((n1.al (.cells #[.bool c2, .slice sa2 sz2.length sc2, .slice da2 dz2.length dc2] 24)).al (.cells #[.bool c3, .slice sa3 sz3.length sc3, .slice da3 dz3.length dc3] 24)).al (.cells #[.int .i64 5, .int .i64 6] 3))
  have B8 : Hid (Abx wo5 (w.heap.size + 1) (.bool c2) (.slice sa2 sz2.length sc2) (.slice da2 dz2.length dc2)) := by rw [hwo5]; exact ((n2.al (.cells #[.bool c3, .slice sa3 sz3.length sc3, .slice da3 dz3.length dc3] 24)).al (.cells #[.int .i64 5, .int .i64 6] 3))
  have B9 : Hid (Abx wo5 (w.heap.size + 1 + 1) (.bool c3) (.slice sa3 sz3.length sc3) (.slice da3 dz3.length dc3)) := by rw [hwo5]; exact (n3.al (.cells #[.int .i64 5, .int .i64 6] 3))
  have L10 : Hid (MidC (w.heap.size + 1 + 1 + 1) (w.heap.size + 1 + 1 + 1 + 1) wo5 (some ⟨w.heap.size + 1 + 1 + 1, 0, none⟩) ([5, 6]) (2)) := by rw [hwo5]; exact n4
  have hb11 : Hid (Below w.heap.size w wo5) := by rw [hwo5]; exact (((((Below.refl w.heap.size w).alloc (by omega) (.cells #[.bool c1, .slice sa1 sz1.length sc1, .slice da1 dz1.length dc1] 24)).alloc (by simp only [World.size_alloc]; omega) (.cells #[.bool c2, .slice sa2 sz2.length sc2, .slice da2 dz2.length dc2] 24)).alloc (by simp only [World.size_alloc]; omega) (.cells #[.bool c3, .slice sa3 sz3.length sc3, .slice da3 dz3.length dc3] 24)).alloc (by simp only [World.size_alloc]; omega) (.cells #[.int .i64 5, .int .i64 6] 3))
  have zwo5 : w.heap.size ≤ wo5.heap.size := hb11.out.size
  clear hwo5 n1 n2 n3 n4
  refine (vec_c (some ⟨w.heap.size + 1 + 1 + 1, 0, none⟩) 2 [5, 6] (by simp) _ (L10.out.is (by omega)).1).mono ?_
  rintro e v1 ⟨vap, vcp, gap, gcp, rfl, hVp, hGp, hB⟩
  have z12 : wo5.heap.size ≤ v1.heap.size := hB.size
  have B13 : Hid (Abx v1 (w.heap.size) (.bool c1) (.slice sa1 sz1.length sc1) (.slice da1 dz1.length dc1)) := B7.out.go hB
  have B14 : Hid (Abx v1 (w.heap.size + 1) (.bool c2) (.slice sa2 sz2.length sc2) (.slice da2 dz2.length dc2)) := B8.out.go hB
  have B15 : Hid (Abx v1 (w.heap.size + 1 + 1) (.bool c3) (.slice sa3 sz3.length sc3) (.slice da3 dz3.length dc3)) := B9.out.go hB
  have L16 : Hid (MidC (w.heap.size + 1 + 1 + 1) (w.heap.size + 1 + 1 + 1 + 1) v1 (some ⟨w.heap.size + 1 + 1 + 1, 0, none⟩) ([5, 6]) (2)) := L10.out.go (by omega) hB
  have hb17 : Hid (Below w.heap.size w v1) := hb11.out.trans (hB.mono hb11.out.size)
  have L18 : Hid (MidC (wo5.heap.size) (v1.heap.size) v1 (vap) ([(2 : Int)]) (vcp)) := hVp.midc
  have L19 : Hid (MidC (wo5.heap.size) (v1.heap.size) v1 (gap) ([5, 6]) (gcp)) := hGp.midc
  clear hB hb11 B7 B8 B9 L10 hVp hGp
  clear L16
  have n20 := lit_mid v1 3 [6, 7] 2 rfl
  simp only [List.map_cons, List.map_nil] at n20
  go_wp2_with fail
  obtain ⟨wo21, hwo21⟩ : ∃ wo21, wo21 = (v1.alloc (.cells #[.int .i64 6, .int .i64 7] 3)) := ⟨_, rfl⟩
  rw [← hwo21]
  have z22 : v1.heap.size + 1 ≤ wo21.heap.size := by rw [hwo21]; simp only [World.size_alloc]; omega
  have B23 : Hid (Abx wo21 (w.heap.size) (.bool c1) (.slice sa1 sz1.length sc1) (.slice da1 dz1.length dc1)) := by rw [hwo21]; exact (B13.out.al (.cells #[.int .i64 6, .int .i64 7] 3))
  have B24 : Hid (Abx wo21 (w.heap.size + 1) (.bool c2) (.slice sa2 sz2.length sc2) (.slice da2 dz2.length dc2)) := by rw [hwo21]; exact (B14.out.al (.cells #[.int .i64 6, .int .i64 7] 3))
  have B25 : Hid (Abx wo21 (w.heap.size + 1 + 1) (.bool c3) (.slice sa3 sz3.length sc3) (.slice da3 dz3.length dc3)) := by rw [hwo21]; exact (B15.out.al (.cells #[.int .i64 6, .int .i64 7] 3))
  have L26 : Hid (MidC (wo5.heap.size) (v1.heap.size) wo21 (vap) ([(2 : Int)]) (vcp)) := by rw [hwo21]; exact (L18.out.al (by omega) (.cells #[.int .i64 6, .int .i64 7] 3))
  have L27 : Hid (MidC (wo5.heap.size) (v1.heap.size) wo21 (gap) ([5, 6]) (gcp)) := by rw [hwo21]; exact (L19.out.al (by omega) (.cells #[.int .i64 6, .int .i64 7] 3))
  have L28 : Hid (MidC (v1.heap.size) (v1.heap.size + 1) wo21 (some ⟨v1.heap.size, 0, none⟩) ([6, 7]) (2)) := by rw [hwo21]; exact n20
  have hb29 : Hid (Below w.heap.size w wo21) := by rw [hwo21]; exact (hb17.out.alloc (by omega) (.cells #[.int .i64 6, .int .i64 7] 3))
  have zwo21 : w.heap.size ≤ wo21.heap.size := hb29.out.size
  clear hwo21 n20 hb17 B13 B14 B15 L18 L19
  refine (vec_c (some ⟨v1.heap.size, 0, none⟩) 2 [6, 7] (by simp) _ (L28.out.is (by omega)).1).mono ?_
  rintro e v2 ⟨vaq, vcq, gaq, gcq, rfl, hVq, hGq, hB⟩
  have z30 : wo21.heap.size ≤ v2.heap.size := hB.size
  have B31 : Hid (Abx v2 (w.heap.size) (.bool c1) (.slice sa1 sz1.length sc1) (.slice da1 dz1.length dc1)) := B23.out.go hB
  have B32 : Hid (Abx v2 (w.heap.size + 1) (.bool c2) (.slice sa2 sz2.length sc2) (.slice da2 dz2.length dc2)) := B24.out.go hB
  have B33 : Hid (Abx v2 (w.heap.size + 1 + 1) (.bool c3) (.slice sa3 sz3.length sc3) (.slice da3 dz3.length dc3)) := B25.out.go hB
  have L34 : Hid (MidC (wo5.heap.size) (v1.heap.size) v2 (vap) ([(2 : Int)]) (vcp)) := L26.out.go (by omega) hB
  have L35 : Hid (MidC (wo5.heap.size) (v1.heap.size) v2 (gap) ([5, 6]) (gcp)) := L27.out.go (by omega) hB
  have L36 : Hid (MidC (v1.heap.size) (v1.heap.size + 1) v2 (some ⟨v1.heap.size, 0, none⟩) ([6, 7]) (2)) := L28.out.go (by omega) hB
  have hb37 : Hid (Below w.heap.size w v2) := hb29.out.trans (hB.mono hb29.out.size)
  have L38 : Hid (MidC (wo21.heap.size) (v2.heap.size) v2 (vaq) ([(2 : Int)]) (vcq)) := hVq.midc
  have L39 : Hid (MidC (wo21.heap.size) (v2.heap.size) v2 (gaq) ([6, 7]) (gcq)) := hGq.midc
  clear hB hb29 B23 B24 B25 L26 L27 L28 hVq hGq
  clear L36
  go_wp2_with fail
  refine (un_ok false vap vcp [(2 : Int)] 1 rfl gap gcp [5, 6] false vaq vcq [(2 : Int)] 1 rfl gaq gcq [6, 7] _ (by decide) (by simp) (by decide) (by simp) (L34.out.is (by omega)).1 (L35.out.is (by omega)).1 (L38.out.is (by omega)).1 (L39.out.is (by omega)).1 (lit_all (by decide)) (lit_all (by decide)) [3] [5, 6, 7] HUn (by decide)).mono ?_
  rintro e v3 ⟨f1, g1, f2, g2, rfl, hX0, hY0, hB⟩
  have z40 : v2.heap.size ≤ v3.heap.size := hB.size
  have B41 : Hid (Abx v3 (w.heap.size) (.bool c1) (.slice sa1 sz1.length sc1) (.slice da1 dz1.length dc1)) := B31.out.go hB
  have B42 : Hid (Abx v3 (w.heap.size + 1) (.bool c2) (.slice sa2 sz2.length sc2) (.slice da2 dz2.length dc2)) := B32.out.go hB
  have B43 : Hid (Abx v3 (w.heap.size + 1 + 1) (.bool c3) (.slice sa3 sz3.length sc3) (.slice da3 dz3.length dc3)) := B33.out.go hB
  have L44 : Hid (MidC (wo5.heap.size) (v1.heap.size) v3 (vap) ([(2 : Int)]) (vcp)) := L34.out.go (by omega) hB
  have L45 : Hid (MidC (wo5.heap.size) (v1.heap.size) v3 (gap) ([5, 6]) (gcp)) := L35.out.go (by omega) hB
  have L46 : Hid (MidC (wo21.heap.size) (v2.heap.size) v3 (vaq) ([(2 : Int)]) (vcq)) := L38.out.go (by omega) hB
  have L47 : Hid (MidC (wo21.heap.size) (v2.heap.size) v3 (gaq) ([6, 7]) (gcq)) := L39.out.go (by omega) hB
  have hb48 : Hid (Below w.heap.size w v3) := hb37.out.trans (hB.mono hb37.out.size)
  have L49 : Hid (MidC (v2.heap.size) (v3.heap.size) v3 (f1) ([3]) (g1)) := hX0.midc
  have L50 : Hid (MidC (v2.heap.size) (v3.heap.size) v3 (f2) ([5, 6, 7]) (g2)) := hY0.midc
  clear hB hb37 B31 B32 B33 L34 L35 L38 L39 hX0 hY0
  clear L44 L45 L46 L47
  have n51 := Abx.new v3 (.bool false) (.slice f1 1 g1) (.slice f2 3 g2)
  have l52 := (n51).c0
  have l53 := (n51).c1
  have l54 := (n51).c2
  have n55 := lit_mid (v3.alloc (.cells #[.bool false, .slice f1 1 g1, .slice f2 3 g2] 24)) 3 [5, 6, 7] 3 rfl
  simp only [World.size_alloc, List.map_cons, List.map_nil] at n55
  go_wp2_with fail
  obtain ⟨wo56, hwo56⟩ : ∃ wo56, wo56 = ((v3.alloc (.cells #[.bool false, .slice f1 1 g1, .slice f2 3 g2] 24)).alloc (.cells #[.int .i64 5, .int .i64 6, .int .i64 7] 3)) := ⟨_, rfl⟩
  rw [← hwo56]
  have z57 : v3.heap.size + 1 + 1 ≤ wo56.heap.size := by rw [hwo56]; simp only [World.size_alloc]; omega
  have B58 : Hid (Abx wo56 (w.heap.size) (.bool c1) (.slice sa1 sz1.length sc1) (.slice da1 dz1.length dc1)) := by rw [hwo56]; exact ((B41.out.al (.cells #[.bool false, .slice f1 1 g1, .slice f2 3 g2] 24)).al (.cells #[.int .i64 5, .int .i64 6, .int .i64 7] 3))
  have B59 : Hid (Abx wo56 (w.heap.size + 1) (.bool c2) (.slice sa2 sz2.length sc2) (.slice da2 dz2.length dc2)) := by rw [hwo56]; exact ((B42.out.al (.cells #[.bool false, .slice f1 1 g1, .slice f2 3 g2] 24)).al (.cells #[.int .i64 5, .int .i64 6, .int .i64 7] 3))
  have B60 : Hid (Abx wo56 (w.heap.size + 1 + 1) (.bool c3) (.slice sa3 sz3.length sc3) (.slice da3 dz3.length dc3)) := by rw [hwo56]; exact ((B43.out.al (.cells #[.bool false, .slice f1 1 g1, .slice f2 3 g2] 24)).al (.cells #[.int .i64 5, .int .i64 6, .int .i64 7] 3))
  have B61 : Hid (Abx wo56 (v3.heap.size) (.bool false) (.slice f1 1 g1) (.slice f2 3 g2)) := by rw [hwo56]; exact (n51.al (.cells #[.int .i64 5, .int .i64 6, .int .i64 7] 3))
  have L62 : Hid (MidC (v2.heap.size) (v3.heap.size) wo56 (f1) ([3]) (g1)) := by rw [hwo56]; exact ((L49.out.al (by omega) (.cells #[.bool false, .slice f1 1 g1, .slice f2 3 g2] 24)).al (by simp only [World.size_alloc]; omega) (.cells #[.int .i64 5, .int .i64 6, .int .i64 7] 3))
  have L63 : Hid (MidC (v2.heap.size) (v3.heap.size) wo56 (f2) ([5, 6, 7]) (g2)) := by rw [hwo56]; exact ((L50.out.al (by omega) (.cells #[.bool false, .slice f1 1 g1, .slice f2 3 g2] 24)).al (by simp only [World.size_alloc]; omega) (.cells #[.int .i64 5, .int .i64 6, .int .i64 7] 3))
  have L64 : Hid (MidC (v3.heap.size + 1) (v3.heap.size + 1 + 1) wo56 (some ⟨v3.heap.size + 1, 0, none⟩) ([5, 6, 7]) (3)) := by rw [hwo56]; exact n55
  have hb65 : Hid (Below w.heap.size w wo56) := by rw [hwo56]; exact ((hb48.out.alloc (by omega) (.cells #[.bool false, .slice f1 1 g1, .slice f2 3 g2] 24)).alloc (by simp only [World.size_alloc]; omega) (.cells #[.int .i64 5, .int .i64 6, .int .i64 7] 3))
  have zwo56 : w.heap.size ≤ wo56.heap.size := hb65.out.size
  clear hwo56 n51 l52 l53 l54 n55 hb48 B41 B42 B43 L49 L50
  refine (ints_any f2 g2 [5, 6, 7] (some ⟨v3.heap.size + 1, 0, none⟩) 3 [5, 6, 7] (by simp) _ _ (L63.out.is (by omega)).1 (L64.out.is (by omega)).1).mono ?_
  rintro e v4 ⟨rfl, hB⟩
  have z66 : wo56.heap.size ≤ v4.heap.size := hB.size
  have B67 : Hid (Abx v4 (w.heap.size) (.bool c1) (.slice sa1 sz1.length sc1) (.slice da1 dz1.length dc1)) := B58.out.go hB
  have B68 : Hid (Abx v4 (w.heap.size + 1) (.bool c2) (.slice sa2 sz2.length sc2) (.slice da2 dz2.length dc2)) := B59.out.go hB
  have B69 : Hid (Abx v4 (w.heap.size + 1 + 1) (.bool c3) (.slice sa3 sz3.length sc3) (.slice da3 dz3.length dc3)) := B60.out.go hB
  have B70 : Hid (Abx v4 (v3.heap.size) (.bool false) (.slice f1 1 g1) (.slice f2 3 g2)) := B61.out.go hB
  have L71 : Hid (MidC (v2.heap.size) (v3.heap.size) v4 (f1) ([3]) (g1)) := L62.out.go (by omega) hB
  have L72 : Hid (MidC (v2.heap.size) (v3.heap.size) v4 (f2) ([5, 6, 7]) (g2)) := L63.out.go (by omega) hB
  have L73 : Hid (MidC (v3.heap.size + 1) (v3.heap.size + 1 + 1) v4 (some ⟨v3.heap.size + 1, 0, none⟩) ([5, 6, 7]) (3)) := L64.out.go (by omega) hB
  have hb74 : Hid (Below w.heap.size w v4) := hb65.out.trans (hB.mono hb65.out.size)
  clear hB hb65 B58 B59 B60 B61 L62 L63 L64
  rw [eqB_true rfl]
  clear L71 L72 L73 B70
  have l75 := (B68.out).c0
  have l76 := (B68.out).c1
  have l77 := (B68.out).c2
  have l78 := (B69.out).c0
  have l79 := (B69.out).c1
  have l80 := (B69.out).c2
  go_wp2_with fail
  clear l75 l76 l77 l78 l79 l80
  refine (un_ok c2 sa2 sc2 sz2 sz2.length rfl da2 dc2 dz2 c3 sa3 sc3 sz3 sz3.length rfl da3 dc3 dz3 _ x21 x22 x31 x32 ((HI2.out.1.1.below hb74.out).mono hb74.out.size) ((HI2.out.2.1.1.below hb74.out).mono hb74.out.size) ((HI3.out.1.1.below hb74.out).mono hb74.out.size) ((HI3.out.2.1.1.below hb74.out).mono hb74.out.size) HI2.out.2.2.2 HI3.out.2.2.2 [(U.length : Int)] U HUn HU.out).mono ?_
  rintro e v5 ⟨xa1, xc1, ya1, yc1, rfl, hX1, hY1, hB⟩
  have z81 : v4.heap.size ≤ v5.heap.size := hB.size
  have B82 : Hid (Abx v5 (w.heap.size) (.bool c1) (.slice sa1 sz1.length sc1) (.slice da1 dz1.length dc1)) := B67.out.go hB
  have B83 : Hid (Abx v5 (w.heap.size + 1) (.bool c2) (.slice sa2 sz2.length sc2) (.slice da2 dz2.length dc2)) := B68.out.go hB
  have B84 : Hid (Abx v5 (w.heap.size + 1 + 1) (.bool c3) (.slice sa3 sz3.length sc3) (.slice da3 dz3.length dc3)) := B69.out.go hB
  have hb85 : Hid (Below w.heap.size w v5) := hb74.out.trans (hB.mono hb74.out.size)
  have L86 : Hid (MidC (v4.heap.size) (v5.heap.size) v5 (xa1) ([(U.length : Int)]) (xc1)) := hX1.midc
  have L87 : Hid (MidC (v4.heap.size) (v5.heap.size) v5 (ya1) (U) (yc1)) := hY1.midc
  clear hB hb74 B67 B68 B69 hX1 hY1
  have n88 := Abx.new v5 (.bool c2) (.slice xa1 1 xc1) (.slice ya1 U.length yc1)
  have l89 := ((B82.out.al (.cells #[.bool c2, .slice xa1 1 xc1, .slice ya1 U.length yc1] 24))).c0
  have l90 := ((B82.out.al (.cells #[.bool c2, .slice xa1 1 xc1, .slice ya1 U.length yc1] 24))).c1
  have l91 := ((B82.out.al (.cells #[.bool c2, .slice xa1 1 xc1, .slice ya1 U.length yc1] 24))).c2
  have l92 := ((B83.out.al (.cells #[.bool c2, .slice xa1 1 xc1, .slice ya1 U.length yc1] 24))).c0
  have l93 := ((B83.out.al (.cells #[.bool c2, .slice xa1 1 xc1, .slice ya1 U.length yc1] 24))).c1
  have l94 := ((B83.out.al (.cells #[.bool c2, .slice xa1 1 xc1, .slice ya1 U.length yc1] 24))).c2
  go_wp2_with fail
  obtain ⟨wo95, hwo95⟩ : ∃ wo95, wo95 = (v5.alloc (.cells #[.bool c2, .slice xa1 1 xc1, .slice ya1 U.length yc1] 24)) := ⟨_, rfl⟩
  rw [← hwo95]
  have z96 : v5.heap.size + 1 ≤ wo95.heap.size := by rw [hwo95]; simp only [World.size_alloc]; omega
  have B97 : Hid (Abx wo95 (w.heap.size) (.bool c1) (.slice sa1 sz1.length sc1) (.slice da1 dz1.length dc1)) := by rw [hwo95]; exact (B82.out.al (.cells #[.bool c2, .slice xa1 1 xc1, .slice ya1 U.length yc1] 24))
  have B98 : Hid (Abx wo95 (w.heap.size + 1) (.bool c2) (.slice sa2 sz2.length sc2) (.slice da2 dz2.length dc2)) := by rw [hwo95]; exact (B83.out.al (.cells #[.bool c2, .slice xa1 1 xc1, .slice ya1 U.length yc1] 24))
  have B99 : Hid (Abx wo95 (w.heap.size + 1 + 1) (.bool c3) (.slice sa3 sz3.length sc3) (.slice da3 dz3.length dc3)) := by rw [hwo95]; exact (B84.out.al (.cells #[.bool c2, .slice xa1 1 xc1, .slice ya1 U.length yc1] 24))
  have B100 : Hid (Abx wo95 (v5.heap.size) (.bool c2) (.slice xa1 1 xc1) (.slice ya1 U.length yc1)) := by rw [hwo95]; exact n88
  have L101 : Hid (MidC (v4.heap.size) (v5.heap.size) wo95 (xa1) ([(U.length : Int)]) (xc1)) := by rw [hwo95]; exact (L86.out.al (by omega) (.cells #[.bool c2, .slice xa1 1 xc1, .slice ya1 U.length yc1] 24))
  have L102 : Hid (MidC (v4.heap.size) (v5.heap.size) wo95 (ya1) (U) (yc1)) := by rw [hwo95]; exact (L87.out.al (by omega) (.cells #[.bool c2, .slice xa1 1 xc1, .slice ya1 U.length yc1] 24))
  have hb103 : Hid (Below w.heap.size w wo95) := by rw [hwo95]; exact (hb85.out.alloc (by omega) (.cells #[.bool c2, .slice xa1 1 xc1, .slice ya1 U.length yc1] 24))
  have zwo95 : w.heap.size ≤ wo95.heap.size := hb103.out.size
  clear hwo95 n88 l89 l90 l91 l92 l93 l94 hb85 B82 B83 B84 L86 L87
  refine (wo_ok c1 sa1 sc1 sz1 sz1.length rfl da1 dc1 dz1 c2 sa2 sc2 sz2 sz2.length rfl da2 dc2 dz2 _ x11 x12 x21 x22 ((HI1.out.1.1.below hb103.out).mono hb103.out.size) ((HI1.out.2.1.1.below hb103.out).mono hb103.out.size) ((HI2.out.1.1.below hb103.out).mono hb103.out.size) ((HI2.out.2.1.1.below hb103.out).mono hb103.out.size) HI1.out.2.2.2 HI2.out.2.2.2 [(X.length : Int)] X HWo HX.out).mono ?_
  rintro e v6 ⟨xa2, xc2, ya2, yc2, rfl, hX2, hY2, hB⟩
  have z104 : wo95.heap.size ≤ v6.heap.size := hB.size
  have B105 : Hid (Abx v6 (w.heap.size) (.bool c1) (.slice sa1 sz1.length sc1) (.slice da1 dz1.length dc1)) := B97.out.go hB
  have B106 : Hid (Abx v6 (w.heap.size + 1) (.bool c2) (.slice sa2 sz2.length sc2) (.slice da2 dz2.length dc2)) := B98.out.go hB
  have B107 : Hid (Abx v6 (w.heap.size + 1 + 1) (.bool c3) (.slice sa3 sz3.length sc3) (.slice da3 dz3.length dc3)) := B99.out.go hB
  have B108 : Hid (Abx v6 (v5.heap.size) (.bool c2) (.slice xa1 1 xc1) (.slice ya1 U.length yc1)) := B100.out.go hB
  have L109 : Hid (MidC (v4.heap.size) (v5.heap.size) v6 (xa1) ([(U.length : Int)]) (xc1)) := L101.out.go (by omega) hB
  have L110 : Hid (MidC (v4.heap.size) (v5.heap.size) v6 (ya1) (U) (yc1)) := L102.out.go (by omega) hB
  have hb111 : Hid (Below w.heap.size w v6) := hb103.out.trans (hB.mono hb103.out.size)
  have L112 : Hid (MidC (wo95.heap.size) (v6.heap.size) v6 (xa2) ([(X.length : Int)]) (xc2)) := hX2.midc
  have L113 : Hid (MidC (wo95.heap.size) (v6.heap.size) v6 (ya2) (X) (yc2)) := hY2.midc
  clear hB hb103 B97 B98 B99 B100 L101 L102 hX2 hY2
  have n114 := Abx.new v6 (.bool c1) (.slice xa2 1 xc2) (.slice ya2 X.length yc2)
  have l115 := ((B105.out.al (.cells #[.bool c1, .slice xa2 1 xc2, .slice ya2 X.length yc2] 24))).c0
  have l116 := ((B105.out.al (.cells #[.bool c1, .slice xa2 1 xc2, .slice ya2 X.length yc2] 24))).c1
  have l117 := ((B105.out.al (.cells #[.bool c1, .slice xa2 1 xc2, .slice ya2 X.length yc2] 24))).c2
  have l118 := ((B106.out.al (.cells #[.bool c1, .slice xa2 1 xc2, .slice ya2 X.length yc2] 24))).c0
  have l119 := ((B106.out.al (.cells #[.bool c1, .slice xa2 1 xc2, .slice ya2 X.length yc2] 24))).c1
  have l120 := ((B106.out.al (.cells #[.bool c1, .slice xa2 1 xc2, .slice ya2 X.length yc2] 24))).c2
  go_wp2_with fail
  obtain ⟨wo121, hwo121⟩ : ∃ wo121, wo121 = (v6.alloc (.cells #[.bool c1, .slice xa2 1 xc2, .slice ya2 X.length yc2] 24)) := ⟨_, rfl⟩
  rw [← hwo121]
  have z122 : v6.heap.size + 1 ≤ wo121.heap.size := by rw [hwo121]; simp only [World.size_alloc]; omega
  have B123 : Hid (Abx wo121 (w.heap.size) (.bool c1) (.slice sa1 sz1.length sc1) (.slice da1 dz1.length dc1)) := by rw [hwo121]; exact (B105.out.al (.cells #[.bool c1, .slice xa2 1 xc2, .slice ya2 X.length yc2] 24))
  have B124 : Hid (Abx wo121 (w.heap.size + 1) (.bool c2) (.slice sa2 sz2.length sc2) (.slice da2 dz2.length dc2)) := by rw [hwo121]; exact (B106.out.al (.cells #[.bool c1, .slice xa2 1 xc2, .slice ya2 X.length yc2] 24))
  have B125 : Hid (Abx wo121 (w.heap.size + 1 + 1) (.bool c3) (.slice sa3 sz3.length sc3) (.slice da3 dz3.length dc3)) := by rw [hwo121]; exact (B107.out.al (.cells #[.bool c1, .slice xa2 1 xc2, .slice ya2 X.length yc2] 24))
  have B126 : Hid (Abx wo121 (v5.heap.size) (.bool c2) (.slice xa1 1 xc1) (.slice ya1 U.length yc1)) := by rw [hwo121]; exact (B108.out.al (.cells #[.bool c1, .slice xa2 1 xc2, .slice ya2 X.length yc2] 24))
  have B127 : Hid (Abx wo121 (v6.heap.size) (.bool c1) (.slice xa2 1 xc2) (.slice ya2 X.length yc2)) := by rw [hwo121]; exact n114
  have L128 : Hid (MidC (v4.heap.size) (v5.heap.size) wo121 (xa1) ([(U.length : Int)]) (xc1)) := by rw [hwo121]; exact (L109.out.al (by omega) (.cells #[.bool c1, .slice xa2 1 xc2, .slice ya2 X.length yc2] 24))
  have L129 : Hid (MidC (v4.heap.size) (v5.heap.size) wo121 (ya1) (U) (yc1)) := by rw [hwo121]; exact (L110.out.al (by omega) (.cells #[.bool c1, .slice xa2 1 xc2, .slice ya2 X.length yc2] 24))
  have L130 : Hid (MidC (wo95.heap.size) (v6.heap.size) wo121 (xa2) ([(X.length : Int)]) (xc2)) := by rw [hwo121]; exact (L112.out.al (by omega) (.cells #[.bool c1, .slice xa2 1 xc2, .slice ya2 X.length yc2] 24))
  have L131 : Hid (MidC (wo95.heap.size) (v6.heap.size) wo121 (ya2) (X) (yc2)) := by rw [hwo121]; exact (L113.out.al (by omega) (.cells #[.bool c1, .slice xa2 1 xc2, .slice ya2 X.length yc2] 24))
  have hb132 : Hid (Below w.heap.size w wo121) := by rw [hwo121]; exact (hb111.out.alloc (by omega) (.cells #[.bool c1, .slice xa2 1 xc2, .slice ya2 X.length yc2] 24))
  have zwo121 : w.heap.size ≤ wo121.heap.size := hb132.out.size
  clear hwo121 n114 l115 l116 l117 l118 l119 l120 hb111 B105 B106 B107 B108 L109 L110 L112 L113
  refine (mt_ok c1 sa1 sc1 sz1 sz1.length rfl da1 dc1 dz1 c2 sa2 sc2 sz2 sz2.length rfl da2 dc2 dz2 _ x11 x12 x21 x22 ((HI1.out.1.1.below hb132.out).mono hb132.out.size) ((HI1.out.2.1.1.below hb132.out).mono hb132.out.size) ((HI2.out.1.1.below hb132.out).mono hb132.out.size) ((HI2.out.2.1.1.below hb132.out).mono hb132.out.size) HI1.out.2.2.2 HI2.out.2.2.2 [(M.length : Int)] M HMt HM.out).mono ?_
  rintro e v7 ⟨xa3, xc3, ya3, yc3, rfl, hX3, hY3, hB⟩
  have z133 : wo121.heap.size ≤ v7.heap.size := hB.size
  have B134 : Hid (Abx v7 (w.heap.size) (.bool c1) (.slice sa1 sz1.length sc1) (.slice da1 dz1.length dc1)) := B123.out.go hB
  have B135 : Hid (Abx v7 (w.heap.size + 1) (.bool c2) (.slice sa2 sz2.length sc2) (.slice da2 dz2.length dc2)) := B124.out.go hB
  have B136 : Hid (Abx v7 (w.heap.size + 1 + 1) (.bool c3) (.slice sa3 sz3.length sc3) (.slice da3 dz3.length dc3)) := B125.out.go hB
  have B137 : Hid (Abx v7 (v5.heap.size) (.bool c2) (.slice xa1 1 xc1) (.slice ya1 U.length yc1)) := B126.out.go hB
  have B138 : Hid (Abx v7 (v6.heap.size) (.bool c1) (.slice xa2 1 xc2) (.slice ya2 X.length yc2)) := B127.out.go hB
  have L139 : Hid (MidC (v4.heap.size) (v5.heap.size) v7 (xa1) ([(U.length : Int)]) (xc1)) := L128.out.go (by omega) hB
  have L140 : Hid (MidC (v4.heap.size) (v5.heap.size) v7 (ya1) (U) (yc1)) := L129.out.go (by omega) hB
  have L141 : Hid (MidC (wo95.heap.size) (v6.heap.size) v7 (xa2) ([(X.length : Int)]) (xc2)) := L130.out.go (by omega) hB
  have L142 : Hid (MidC (wo95.heap.size) (v6.heap.size) v7 (ya2) (X) (yc2)) := L131.out.go (by omega) hB
  have hb143 : Hid (Below w.heap.size w v7) := hb132.out.trans (hB.mono hb132.out.size)
  have L144 : Hid (MidC (wo121.heap.size) (v7.heap.size) v7 (xa3) ([(M.length : Int)]) (xc3)) := hX3.midc
  have L145 : Hid (MidC (wo121.heap.size) (v7.heap.size) v7 (ya3) (M) (yc3)) := hY3.midc
  clear hB hb132 B123 B124 B125 B126 B127 L128 L129 L130 L131 hX3 hY3
  have n146 := Abx.new v7 (.bool c1) (.slice xa3 1 xc3) (.slice ya3 M.length yc3)
  have l147 := ((B138.out.al (.cells #[.bool c1, .slice xa3 1 xc3, .slice ya3 M.length yc3] 24))).c0
  have l148 := ((B138.out.al (.cells #[.bool c1, .slice xa3 1 xc3, .slice ya3 M.length yc3] 24))).c1
  have l149 := ((B138.out.al (.cells #[.bool c1, .slice xa3 1 xc3, .slice ya3 M.length yc3] 24))).c2
  have l150 := ((B136.out.al (.cells #[.bool c1, .slice xa3 1 xc3, .slice ya3 M.length yc3] 24))).c0
  have l151 := ((B136.out.al (.cells #[.bool c1, .slice xa3 1 xc3, .slice ya3 M.length yc3] 24))).c1
  have l152 := ((B136.out.al (.cells #[.bool c1, .slice xa3 1 xc3, .slice ya3 M.length yc3] 24))).c2
  go_wp2_with fail
  obtain ⟨wo153, hwo153⟩ : ∃ wo153, wo153 = (v7.alloc (.cells #[.bool c1, .slice xa3 1 xc3, .slice ya3 M.length yc3] 24)) := ⟨_, rfl⟩
  rw [← hwo153]
  have z154 : v7.heap.size + 1 ≤ wo153.heap.size := by rw [hwo153]; simp only [World.size_alloc]; omega
  have B155 : Hid (Abx wo153 (w.heap.size) (.bool c1) (.slice sa1 sz1.length sc1) (.slice da1 dz1.length dc1)) := by rw [hwo153]; exact (B134.out.al (.cells #[.bool c1, .slice xa3 1 xc3, .slice ya3 M.length yc3] 24))
  have B156 : Hid (Abx wo153 (w.heap.size + 1) (.bool c2) (.slice sa2 sz2.length sc2) (.slice da2 dz2.length dc2)) := by rw [hwo153]; exact (B135.out.al (.cells #[.bool c1, .slice xa3 1 xc3, .slice ya3 M.length yc3] 24))
  have B157 : Hid (Abx wo153 (w.heap.size + 1 + 1) (.bool c3) (.slice sa3 sz3.length sc3) (.slice da3 dz3.length dc3)) := by rw [hwo153]; exact (B136.out.al (.cells #[.bool c1, .slice xa3 1 xc3, .slice ya3 M.length yc3] 24))
  have B158 : Hid (Abx wo153 (v5.heap.size) (.bool c2) (.slice xa1 1 xc1) (.slice ya1 U.length yc1)) := by rw [hwo153]; exact (B137.out.al (.cells #[.bool c1, .slice xa3 1 xc3, .slice ya3 M.length yc3] 24))
  have B159 : Hid (Abx wo153 (v6.heap.size) (.bool c1) (.slice xa2 1 xc2) (.slice ya2 X.length yc2)) := by rw [hwo153]; exact (B138.out.al (.cells #[.bool c1, .slice xa3 1 xc3, .slice ya3 M.length yc3] 24))
  have B160 : Hid (Abx wo153 (v7.heap.size) (.bool c1) (.slice xa3 1 xc3) (.slice ya3 M.length yc3)) := by rw [hwo153]; exact n146
  have L161 : Hid (MidC (v4.heap.size) (v5.heap.size) wo153 (xa1) ([(U.length : Int)]) (xc1)) := by rw [hwo153]; exact (L139.out.al (by omega) (.cells #[.bool c1, .slice xa3 1 xc3, .slice ya3 M.length yc3] 24))
  have L162 : Hid (MidC (v4.heap.size) (v5.heap.size) wo153 (ya1) (U) (yc1)) := by rw [hwo153]; exact (L140.out.al (by omega) (.cells #[.bool c1, .slice xa3 1 xc3, .slice ya3 M.length yc3] 24))
  have L163 : Hid (MidC (wo95.heap.size) (v6.heap.size) wo153 (xa2) ([(X.length : Int)]) (xc2)) := by rw [hwo153]; exact (L141.out.al (by omega) (.cells #[.bool c1, .slice xa3 1 xc3, .slice ya3 M.length yc3] 24))
  have L164 : Hid (MidC (wo95.heap.size) (v6.heap.size) wo153 (ya2) (X) (yc2)) := by rw [hwo153]; exact (L142.out.al (by omega) (.cells #[.bool c1, .slice xa3 1 xc3, .slice ya3 M.length yc3] 24))
  have L165 : Hid (MidC (wo121.heap.size) (v7.heap.size) wo153 (xa3) ([(M.length : Int)]) (xc3)) := by rw [hwo153]; exact (L144.out.al (by omega) (.cells #[.bool c1, .slice xa3 1 xc3, .slice ya3 M.length yc3] 24))
  have L166 : Hid (MidC (wo121.heap.size) (v7.heap.size) wo153 (ya3) (M) (yc3)) := by rw [hwo153]; exact (L145.out.al (by omega) (.cells #[.bool c1, .slice xa3 1 xc3, .slice ya3 M.length yc3] 24))
  have hb167 : Hid (Below w.heap.size w wo153) := by rw [hwo153]; exact (hb143.out.alloc (by omega) (.cells #[.bool c1, .slice xa3 1 xc3, .slice ya3 M.length yc3] 24))
  have zwo153 : w.heap.size ≤ wo153.heap.size := hb167.out.size
  clear hwo153 n146 l147 l148 l149 l150 l151 l152 hb143 B134 B135 B136 B137 B138 L139 L140 L141 L142 L144 L145
  refine (wo_ok c1 xa2 xc2 [(X.length : Int)] 1 rfl ya2 yc2 X c3 sa3 sc3 sz3 sz3.length rfl da3 dc3 dz3 _ (by decide) (by omega) x31 x32 (L163.out.is (by omega)).1 (L164.out.is (by omega)).1 ((HI3.out.1.1.below hb167.out).mono hb167.out.size) ((HI3.out.2.1.1.below hb167.out).mono hb167.out.size) HT.out.1 HI3.out.2.2.2 [(Y.length : Int)] Y HWo HY.out).mono ?_
  rintro e v8 ⟨xa4, xc4, ya4, yc4, rfl, hX4, hY4, hB⟩
  have z168 : wo153.heap.size ≤ v8.heap.size := hB.size
  have B169 : Hid (Abx v8 (w.heap.size) (.bool c1) (.slice sa1 sz1.length sc1) (.slice da1 dz1.length dc1)) := B155.out.go hB
  have B170 : Hid (Abx v8 (w.heap.size + 1) (.bool c2) (.slice sa2 sz2.length sc2) (.slice da2 dz2.length dc2)) := B156.out.go hB
  have B171 : Hid (Abx v8 (w.heap.size + 1 + 1) (.bool c3) (.slice sa3 sz3.length sc3) (.slice da3 dz3.length dc3)) := B157.out.go hB
  have B172 : Hid (Abx v8 (v5.heap.size) (.bool c2) (.slice xa1 1 xc1) (.slice ya1 U.length yc1)) := B158.out.go hB
  have B173 : Hid (Abx v8 (v6.heap.size) (.bool c1) (.slice xa2 1 xc2) (.slice ya2 X.length yc2)) := B159.out.go hB
  have B174 : Hid (Abx v8 (v7.heap.size) (.bool c1) (.slice xa3 1 xc3) (.slice ya3 M.length yc3)) := B160.out.go hB
  have L175 : Hid (MidC (v4.heap.size) (v5.heap.size) v8 (xa1) ([(U.length : Int)]) (xc1)) := L161.out.go (by omega) hB
  have L176 : Hid (MidC (v4.heap.size) (v5.heap.size) v8 (ya1) (U) (yc1)) := L162.out.go (by omega) hB
  have L177 : Hid (MidC (wo95.heap.size) (v6.heap.size) v8 (xa2) ([(X.length : Int)]) (xc2)) := L163.out.go (by omega) hB
  have L178 : Hid (MidC (wo95.heap.size) (v6.heap.size) v8 (ya2) (X) (yc2)) := L164.out.go (by omega) hB
  have L179 : Hid (MidC (wo121.heap.size) (v7.heap.size) v8 (xa3) ([(M.length : Int)]) (xc3)) := L165.out.go (by omega) hB
  have L180 : Hid (MidC (wo121.heap.size) (v7.heap.size) v8 (ya3) (M) (yc3)) := L166.out.go (by omega) hB
  have hb181 : Hid (Below w.heap.size w v8) := hb167.out.trans (hB.mono hb167.out.size)
  have L182 : Hid (MidC (wo153.heap.size) (v8.heap.size) v8 (xa4) ([(Y.length : Int)]) (xc4)) := hX4.midc
  have L183 : Hid (MidC (wo153.heap.size) (v8.heap.size) v8 (ya4) (Y) (yc4)) := hY4.midc
  clear hB hb167 B155 B156 B157 B158 B159 B160 L161 L162 L163 L164 L165 L166 hX4 hY4
  clear L177 L178
  have n184 := Abx.new v8 (.bool c1) (.slice xa4 1 xc4) (.slice ya4 Y.length yc4)
  have l185 := ((B169.out.al (.cells #[.bool c1, .slice xa4 1 xc4, .slice ya4 Y.length yc4] 24))).c0
  have l186 := ((B169.out.al (.cells #[.bool c1, .slice xa4 1 xc4, .slice ya4 Y.length yc4] 24))).c1
  have l187 := ((B169.out.al (.cells #[.bool c1, .slice xa4 1 xc4, .slice ya4 Y.length yc4] 24))).c2
  have l188 := ((B172.out.al (.cells #[.bool c1, .slice xa4 1 xc4, .slice ya4 Y.length yc4] 24))).c0
  have l189 := ((B172.out.al (.cells #[.bool c1, .slice xa4 1 xc4, .slice ya4 Y.length yc4] 24))).c1
  have l190 := ((B172.out.al (.cells #[.bool c1, .slice xa4 1 xc4, .slice ya4 Y.length yc4] 24))).c2
  go_wp2_with fail
  obtain ⟨wo191, hwo191⟩ : ∃ wo191, wo191 = (v8.alloc (.cells #[.bool c1, .slice xa4 1 xc4, .slice ya4 Y.length yc4] 24)) := ⟨_, rfl⟩
  rw [← hwo191]
  have z192 : v8.heap.size + 1 ≤ wo191.heap.size := by rw [hwo191]; simp only [World.size_alloc]; omega
  have B193 : Hid (Abx wo191 (w.heap.size) (.bool c1) (.slice sa1 sz1.length sc1) (.slice da1 dz1.length dc1)) := by rw [hwo191]; exact (B169.out.al (.cells #[.bool c1, .slice xa4 1 xc4, .slice ya4 Y.length yc4] 24))
  have B194 : Hid (Abx wo191 (w.heap.size + 1) (.bool c2) (.slice sa2 sz2.length sc2) (.slice da2 dz2.length dc2)) := by rw [hwo191]; exact (B170.out.al (.cells #[.bool c1, .slice xa4 1 xc4, .slice ya4 Y.length yc4] 24))
  have B195 : Hid (Abx wo191 (w.heap.size + 1 + 1) (.bool c3) (.slice sa3 sz3.length sc3) (.slice da3 dz3.length dc3)) := by rw [hwo191]; exact (B171.out.al (.cells #[.bool c1, .slice xa4 1 xc4, .slice ya4 Y.length yc4] 24))
  have B196 : Hid (Abx wo191 (v5.heap.size) (.bool c2) (.slice xa1 1 xc1) (.slice ya1 U.length yc1)) := by rw [hwo191]; exact (B172.out.al (.cells #[.bool c1, .slice xa4 1 xc4, .slice ya4 Y.length yc4] 24))
  have B197 : Hid (Abx wo191 (v6.heap.size) (.bool c1) (.slice xa2 1 xc2) (.slice ya2 X.length yc2)) := by rw [hwo191]; exact (B173.out.al (.cells #[.bool c1, .slice xa4 1 xc4, .slice ya4 Y.length yc4] 24))
  have B198 : Hid (Abx wo191 (v7.heap.size) (.bool c1) (.slice xa3 1 xc3) (.slice ya3 M.length yc3)) := by rw [hwo191]; exact (B174.out.al (.cells #[.bool c1, .slice xa4 1 xc4, .slice ya4 Y.length yc4] 24))
  have B199 : Hid (Abx wo191 (v8.heap.size) (.bool c1) (.slice xa4 1 xc4) (.slice ya4 Y.length yc4)) := by rw [hwo191]; exact n184
  have L200 : Hid (MidC (v4.heap.size) (v5.heap.size) wo191 (xa1) ([(U.length : Int)]) (xc1)) := by rw [hwo191]; exact (L175.out.al (by omega) (.cells #[.bool c1, .slice xa4 1 xc4, .slice ya4 Y.length yc4] 24))
  have L201 : Hid (MidC (v4.heap.size) (v5.heap.size) wo191 (ya1) (U) (yc1)) := by rw [hwo191]; exact (L176.out.al (by omega) (.cells #[.bool c1, .slice xa4 1 xc4, .slice ya4 Y.length yc4] 24))
  have L202 : Hid (MidC (wo121.heap.size) (v7.heap.size) wo191 (xa3) ([(M.length : Int)]) (xc3)) := by rw [hwo191]; exact (L179.out.al (by omega) (.cells #[.bool c1, .slice xa4 1 xc4, .slice ya4 Y.length yc4] 24))
  have L203 : Hid (MidC (wo121.heap.size) (v7.heap.size) wo191 (ya3) (M) (yc3)) := by rw [hwo191]; exact (L180.out.al (by omega) (.cells #[.bool c1, .slice xa4 1 xc4, .slice ya4 Y.length yc4] 24))
  have L204 : Hid (MidC (wo153.heap.size) (v8.heap.size) wo191 (xa4) ([(Y.length : Int)]) (xc4)) := by rw [hwo191]; exact (L182.out.al (by omega) (.cells #[.bool c1, .slice xa4 1 xc4, .slice ya4 Y.length yc4] 24))
  have L205 : Hid (MidC (wo153.heap.size) (v8.heap.size) wo191 (ya4) (Y) (yc4)) := by rw [hwo191]; exact (L183.out.al (by omega) (.cells #[.bool c1, .slice xa4 1 xc4, .slice ya4 Y.length yc4] 24))
  have hb206 : Hid (Below w.heap.size w wo191) := by rw [hwo191]; exact (hb181.out.alloc (by omega) (.cells #[.bool c1, .slice xa4 1 xc4, .slice ya4 Y.length yc4] 24))
  have zwo191 : w.heap.size ≤ wo191.heap.size := hb206.out.size
  clear hwo191 n184 l185 l186 l187 l188 l189 l190 hb181 B169 B170 B171 B172 B173 B174 L175 L176 L179 L180 L182 L183
  refine (wo_ok c1 sa1 sc1 sz1 sz1.length rfl da1 dc1 dz1 c2 xa1 xc1 [(U.length : Int)] 1 rfl ya1 yc1 U _ x11 x12 (by decide) (by omega) ((HI1.out.1.1.below hb206.out).mono hb206.out.size) ((HI1.out.2.1.1.below hb206.out).mono hb206.out.size) (L200.out.is (by omega)).1 (L201.out.is (by omega)).1 HI1.out.2.2.2 HT.out.2.2.2 [(Y.length : Int)] Y HWo HZ.out).mono ?_
  rintro e v9 ⟨xa5, xc5, ya5, yc5, rfl, hX5, hY5, hB⟩
  have z207 : wo191.heap.size ≤ v9.heap.size := hB.size
  have B208 : Hid (Abx v9 (w.heap.size) (.bool c1) (.slice sa1 sz1.length sc1) (.slice da1 dz1.length dc1)) := B193.out.go hB
  have B209 : Hid (Abx v9 (w.heap.size + 1) (.bool c2) (.slice sa2 sz2.length sc2) (.slice da2 dz2.length dc2)) := B194.out.go hB
  have B210 : Hid (Abx v9 (w.heap.size + 1 + 1) (.bool c3) (.slice sa3 sz3.length sc3) (.slice da3 dz3.length dc3)) := B195.out.go hB
  have B211 : Hid (Abx v9 (v5.heap.size) (.bool c2) (.slice xa1 1 xc1) (.slice ya1 U.length yc1)) := B196.out.go hB
  have B212 : Hid (Abx v9 (v6.heap.size) (.bool c1) (.slice xa2 1 xc2) (.slice ya2 X.length yc2)) := B197.out.go hB
  have B213 : Hid (Abx v9 (v7.heap.size) (.bool c1) (.slice xa3 1 xc3) (.slice ya3 M.length yc3)) := B198.out.go hB
  have B214 : Hid (Abx v9 (v8.heap.size) (.bool c1) (.slice xa4 1 xc4) (.slice ya4 Y.length yc4)) := B199.out.go hB
  have L215 : Hid (MidC (v4.heap.size) (v5.heap.size) v9 (xa1) ([(U.length : Int)]) (xc1)) := L200.out.go (by omega) hB
  have L216 : Hid (MidC (v4.heap.size) (v5.heap.size) v9 (ya1) (U) (yc1)) := L201.out.go (by omega) hB
  have L217 : Hid (MidC (wo121.heap.size) (v7.heap.size) v9 (xa3) ([(M.length : Int)]) (xc3)) := L202.out.go (by omega) hB
  have L218 : Hid (MidC (wo121.heap.size) (v7.heap.size) v9 (ya3) (M) (yc3)) := L203.out.go (by omega) hB
  have L219 : Hid (MidC (wo153.heap.size) (v8.heap.size) v9 (xa4) ([(Y.length : Int)]) (xc4)) := L204.out.go (by omega) hB
  have L220 : Hid (MidC (wo153.heap.size) (v8.heap.size) v9 (ya4) (Y) (yc4)) := L205.out.go (by omega) hB
  have hb221 : Hid (Below w.heap.size w v9) := hb206.out.trans (hB.mono hb206.out.size)
  have L222 : Hid (MidC (wo191.heap.size) (v9.heap.size) v9 (xa5) ([(Y.length : Int)]) (xc5)) := hX5.midc
  have L223 : Hid (MidC (wo191.heap.size) (v9.heap.size) v9 (ya5) (Y) (yc5)) := hY5.midc
  clear hB hb206 B193 B194 B195 B196 B197 B198 B199 L200 L201 L202 L203 L204 L205 hX5 hY5
  clear L215 L216 B211
  have n224 := Abx.new v9 (.bool c1) (.slice xa5 1 xc5) (.slice ya5 Y.length yc5)
  have l225 := ((B214.out.al (.cells #[.bool c1, .slice xa5 1 xc5, .slice ya5 Y.length yc5] 24))).c0
  have l226 := ((B214.out.al (.cells #[.bool c1, .slice xa5 1 xc5, .slice ya5 Y.length yc5] 24))).c1
  have l227 := ((B214.out.al (.cells #[.bool c1, .slice xa5 1 xc5, .slice ya5 Y.length yc5] 24))).c2
  have l228 := (n224).c0
  have l229 := (n224).c1
  have l230 := (n224).c2
  go_wp2_with fail
  obtain ⟨wo231, hwo231⟩ : ∃ wo231, wo231 = (v9.alloc (.cells #[.bool c1, .slice xa5 1 xc5, .slice ya5 Y.length yc5] 24)) := ⟨_, rfl⟩
  rw [← hwo231]
  have z232 : v9.heap.size + 1 ≤ wo231.heap.size := by rw [hwo231]; simp only [World.size_alloc]; omega
  have B233 : Hid (Abx wo231 (w.heap.size) (.bool c1) (.slice sa1 sz1.length sc1) (.slice da1 dz1.length dc1)) := by rw [hwo231]; exact (B208.out.al (.cells #[.bool c1, .slice xa5 1 xc5, .slice ya5 Y.length yc5] 24))
  have B234 : Hid (Abx wo231 (w.heap.size + 1) (.bool c2) (.slice sa2 sz2.length sc2) (.slice da2 dz2.length dc2)) := by rw [hwo231]; exact (B209.out.al (.cells #[.bool c1, .slice xa5 1 xc5, .slice ya5 Y.length yc5] 24))
  have B235 : Hid (Abx wo231 (w.heap.size + 1 + 1) (.bool c3) (.slice sa3 sz3.length sc3) (.slice da3 dz3.length dc3)) := by rw [hwo231]; exact (B210.out.al (.cells #[.bool c1, .slice xa5 1 xc5, .slice ya5 Y.length yc5] 24))
  have B236 : Hid (Abx wo231 (v6.heap.size) (.bool c1) (.slice xa2 1 xc2) (.slice ya2 X.length yc2)) := by rw [hwo231]; exact (B212.out.al (.cells #[.bool c1, .slice xa5 1 xc5, .slice ya5 Y.length yc5] 24))
  have B237 : Hid (Abx wo231 (v7.heap.size) (.bool c1) (.slice xa3 1 xc3) (.slice ya3 M.length yc3)) := by rw [hwo231]; exact (B213.out.al (.cells #[.bool c1, .slice xa5 1 xc5, .slice ya5 Y.length yc5] 24))
  have B238 : Hid (Abx wo231 (v8.heap.size) (.bool c1) (.slice xa4 1 xc4) (.slice ya4 Y.length yc4)) := by rw [hwo231]; exact (B214.out.al (.cells #[.bool c1, .slice xa5 1 xc5, .slice ya5 Y.length yc5] 24))
  have B239 : Hid (Abx wo231 (v9.heap.size) (.bool c1) (.slice xa5 1 xc5) (.slice ya5 Y.length yc5)) := by rw [hwo231]; exact n224
  have L240 : Hid (MidC (wo121.heap.size) (v7.heap.size) wo231 (xa3) ([(M.length : Int)]) (xc3)) := by rw [hwo231]; exact (L217.out.al (by omega) (.cells #[.bool c1, .slice xa5 1 xc5, .slice ya5 Y.length yc5] 24))
  have L241 : Hid (MidC (wo121.heap.size) (v7.heap.size) wo231 (ya3) (M) (yc3)) := by rw [hwo231]; exact (L218.out.al (by omega) (.cells #[.bool c1, .slice xa5 1 xc5, .slice ya5 Y.length yc5] 24))
  have L242 : Hid (MidC (wo153.heap.size) (v8.heap.size) wo231 (xa4) ([(Y.length : Int)]) (xc4)) := by rw [hwo231]; exact (L219.out.al (by omega) (.cells #[.bool c1, .slice xa5 1 xc5, .slice ya5 Y.length yc5] 24))
  have L243 : Hid (MidC (wo153.heap.size) (v8.heap.size) wo231 (ya4) (Y) (yc4)) := by rw [hwo231]; exact (L220.out.al (by omega) (.cells #[.bool c1, .slice xa5 1 xc5, .slice ya5 Y.length yc5] 24))
  have L244 : Hid (MidC (wo191.heap.size) (v9.heap.size) wo231 (xa5) ([(Y.length : Int)]) (xc5)) := by rw [hwo231]; exact (L222.out.al (by omega) (.cells #[.bool c1, .slice xa5 1 xc5, .slice ya5 Y.length yc5] 24))
  have L245 : Hid (MidC (wo191.heap.size) (v9.heap.size) wo231 (ya5) (Y) (yc5)) := by rw [hwo231]; exact (L223.out.al (by omega) (.cells #[.bool c1, .slice xa5 1 xc5, .slice ya5 Y.length yc5] 24))
  have hb246 : Hid (Below w.heap.size w wo231) := by rw [hwo231]; exact (hb221.out.alloc (by omega) (.cells #[.bool c1, .slice xa5 1 xc5, .slice ya5 Y.length yc5] 24))
  have zwo231 : w.heap.size ≤ wo231.heap.size := hb246.out.size
  clear hwo231 n224 l225 l226 l227 l228 l229 l230 hb221 B208 B209 B210 B212 B213 B214 L217 L218 L219 L220 L222 L223
  refine (alike_eq c1 xa4 xc4 [(Y.length : Int)] ya4 yc4 Y xa5 xc5 [(Y.length : Int)] ya5 yc5 Y rfl rfl (by simp) (by omega) _ (L242.out.is (by omega)) (L243.out.is (by omega)).1 (L244.out.is (by omega)) (L245.out.is (by omega)).1).mono ?_
  rintro e v10 ⟨rfl, hB⟩
  have z247 : wo231.heap.size ≤ v10.heap.size := hB.size
  have B248 : Hid (Abx v10 (w.heap.size) (.bool c1) (.slice sa1 sz1.length sc1) (.slice da1 dz1.length dc1)) := B233.out.go hB
  have B249 : Hid (Abx v10 (w.heap.size + 1) (.bool c2) (.slice sa2 sz2.length sc2) (.slice da2 dz2.length dc2)) := B234.out.go hB
  have B250 : Hid (Abx v10 (w.heap.size + 1 + 1) (.bool c3) (.slice sa3 sz3.length sc3) (.slice da3 dz3.length dc3)) := B235.out.go hB
  have B251 : Hid (Abx v10 (v6.heap.size) (.bool c1) (.slice xa2 1 xc2) (.slice ya2 X.length yc2)) := B236.out.go hB
  have B252 : Hid (Abx v10 (v7.heap.size) (.bool c1) (.slice xa3 1 xc3) (.slice ya3 M.length yc3)) := B237.out.go hB
  have B253 : Hid (Abx v10 (v8.heap.size) (.bool c1) (.slice xa4 1 xc4) (.slice ya4 Y.length yc4)) := B238.out.go hB
  have B254 : Hid (Abx v10 (v9.heap.size) (.bool c1) (.slice xa5 1 xc5) (.slice ya5 Y.length yc5)) := B239.out.go hB
  have L255 : Hid (MidC (wo121.heap.size) (v7.heap.size) v10 (xa3) ([(M.length : Int)]) (xc3)) := L240.out.go (by omega) hB
  have L256 : Hid (MidC (wo121.heap.size) (v7.heap.size) v10 (ya3) (M) (yc3)) := L241.out.go (by omega) hB
  have L257 : Hid (MidC (wo153.heap.size) (v8.heap.size) v10 (xa4) ([(Y.length : Int)]) (xc4)) := L242.out.go (by omega) hB
  have L258 : Hid (MidC (wo153.heap.size) (v8.heap.size) v10 (ya4) (Y) (yc4)) := L243.out.go (by omega) hB
  have L259 : Hid (MidC (wo191.heap.size) (v9.heap.size) v10 (xa5) ([(Y.length : Int)]) (xc5)) := L244.out.go (by omega) hB
  have L260 : Hid (MidC (wo191.heap.size) (v9.heap.size) v10 (ya5) (Y) (yc5)) := L245.out.go (by omega) hB
  have hb261 : Hid (Below w.heap.size w v10) := hb246.out.trans (hB.mono hb246.out.size)
  clear hB hb246 B233 B234 B235 B236 B237 B238 B239 L240 L241 L242 L243 L244 L245
  clear L257 L258 L259 L260 B253 B254
  have l262 := (B252.out).c0
  have l263 := (B252.out).c1
  have l264 := (B252.out).c2
  have l265 := (B250.out).c0
  have l266 := (B250.out).c1
  have l267 := (B250.out).c2
  go_wp2_with fail
  clear l262 l263 l264 l265 l266 l267
  refine (mt_ok c1 xa3 xc3 [(M.length : Int)] 1 rfl ya3 yc3 M c3 sa3 sc3 sz3 sz3.length rfl da3 dc3 dz3 _ (by decide) (by omega) x31 x32 (L255.out.is (by omega)).1 (L256.out.is (by omega)).1 ((HI3.out.1.1.below hb261.out).mono hb261.out.size) ((HI3.out.2.1.1.below hb261.out).mono hb261.out.size) HT.out.2.1 HI3.out.2.2.2 [(R.length : Int)] R HMt HR.out).mono ?_
  rintro e v11 ⟨xa6, xc6, ya6, yc6, rfl, hX6, hY6, hB⟩
  have z268 : v10.heap.size ≤ v11.heap.size := hB.size
  have B269 : Hid (Abx v11 (w.heap.size) (.bool c1) (.slice sa1 sz1.length sc1) (.slice da1 dz1.length dc1)) := B248.out.go hB
  have B270 : Hid (Abx v11 (w.heap.size + 1) (.bool c2) (.slice sa2 sz2.length sc2) (.slice da2 dz2.length dc2)) := B249.out.go hB
  have B271 : Hid (Abx v11 (w.heap.size + 1 + 1) (.bool c3) (.slice sa3 sz3.length sc3) (.slice da3 dz3.length dc3)) := B250.out.go hB
  have B272 : Hid (Abx v11 (v6.heap.size) (.bool c1) (.slice xa2 1 xc2) (.slice ya2 X.length yc2)) := B251.out.go hB
  have B273 : Hid (Abx v11 (v7.heap.size) (.bool c1) (.slice xa3 1 xc3) (.slice ya3 M.length yc3)) := B252.out.go hB
  have L274 : Hid (MidC (wo121.heap.size) (v7.heap.size) v11 (xa3) ([(M.length : Int)]) (xc3)) := L255.out.go (by omega) hB
  have L275 : Hid (MidC (wo121.heap.size) (v7.heap.size) v11 (ya3) (M) (yc3)) := L256.out.go (by omega) hB
  have hb276 : Hid (Below w.heap.size w v11) := hb261.out.trans (hB.mono hb261.out.size)
  have L277 : Hid (MidC (v10.heap.size) (v11.heap.size) v11 (xa6) ([(R.length : Int)]) (xc6)) := hX6.midc
  have L278 : Hid (MidC (v10.heap.size) (v11.heap.size) v11 (ya6) (R) (yc6)) := hY6.midc
  clear hB hb261 B248 B249 B250 B251 B252 L255 L256 hX6 hY6
  clear L274 L275
  have n279 := Abx.new v11 (.bool c1) (.slice xa6 1 xc6) (.slice ya6 R.length yc6)
  have l280 := ((B270.out.al (.cells #[.bool c1, .slice xa6 1 xc6, .slice ya6 R.length yc6] 24))).c0
  have l281 := ((B270.out.al (.cells #[.bool c1, .slice xa6 1 xc6, .slice ya6 R.length yc6] 24))).c1
  have l282 := ((B270.out.al (.cells #[.bool c1, .slice xa6 1 xc6, .slice ya6 R.length yc6] 24))).c2
  have l283 := ((B271.out.al (.cells #[.bool c1, .slice xa6 1 xc6, .slice ya6 R.length yc6] 24))).c0
  have l284 := ((B271.out.al (.cells #[.bool c1, .slice xa6 1 xc6, .slice ya6 R.length yc6] 24))).c1
  have l285 := ((B271.out.al (.cells #[.bool c1, .slice xa6 1 xc6, .slice ya6 R.length yc6] 24))).c2
  go_wp2_with fail
  obtain ⟨wo286, hwo286⟩ : ∃ wo286, wo286 = (v11.alloc (.cells #[.bool c1, .slice xa6 1 xc6, .slice ya6 R.length yc6] 24)) := ⟨_, rfl⟩
  rw [← hwo286]
  have z287 : v11.heap.size + 1 ≤ wo286.heap.size := by rw [hwo286]; simp only [World.size_alloc]; omega
  have B288 : Hid (Abx wo286 (w.heap.size) (.bool c1) (.slice sa1 sz1.length sc1) (.slice da1 dz1.length dc1)) := by rw [hwo286]; exact (B269.out.al (.cells #[.bool c1, .slice xa6 1 xc6, .slice ya6 R.length yc6] 24))
  have B289 : Hid (Abx wo286 (w.heap.size + 1) (.bool c2) (.slice sa2 sz2.length sc2) (.slice da2 dz2.length dc2)) := by rw [hwo286]; exact (B270.out.al (.cells #[.bool c1, .slice xa6 1 xc6, .slice ya6 R.length yc6] 24))
  have B290 : Hid (Abx wo286 (w.heap.size + 1 + 1) (.bool c3) (.slice sa3 sz3.length sc3) (.slice da3 dz3.length dc3)) := by rw [hwo286]; exact (B271.out.al (.cells #[.bool c1, .slice xa6 1 xc6, .slice ya6 R.length yc6] 24))
  have B291 : Hid (Abx wo286 (v6.heap.size) (.bool c1) (.slice xa2 1 xc2) (.slice ya2 X.length yc2)) := by rw [hwo286]; exact (B272.out.al (.cells #[.bool c1, .slice xa6 1 xc6, .slice ya6 R.length yc6] 24))
  have B292 : Hid (Abx wo286 (v7.heap.size) (.bool c1) (.slice xa3 1 xc3) (.slice ya3 M.length yc3)) := by rw [hwo286]; exact (B273.out.al (.cells #[.bool c1, .slice xa6 1 xc6, .slice ya6 R.length yc6] 24))
  have B293 : Hid (Abx wo286 (v11.heap.size) (.bool c1) (.slice xa6 1 xc6) (.slice ya6 R.length yc6)) := by rw [hwo286]; exact n279
  have L294 : Hid (MidC (v10.heap.size) (v11.heap.size) wo286 (xa6) ([(R.length : Int)]) (xc6)) := by rw [hwo286]; exact (L277.out.al (by omega) (.cells #[.bool c1, .slice xa6 1 xc6, .slice ya6 R.length yc6] 24))
  have L295 : Hid (MidC (v10.heap.size) (v11.heap.size) wo286 (ya6) (R) (yc6)) := by rw [hwo286]; exact (L278.out.al (by omega) (.cells #[.bool c1, .slice xa6 1 xc6, .slice ya6 R.length yc6] 24))
  have hb296 : Hid (Below w.heap.size w wo286) := by rw [hwo286]; exact (hb276.out.alloc (by omega) (.cells #[.bool c1, .slice xa6 1 xc6, .slice ya6 R.length yc6] 24))
  have zwo286 : w.heap.size ≤ wo286.heap.size := hb296.out.size
  clear hwo286 n279 l280 l281 l282 l283 l284 l285 hb276 B269 B270 B271 B272 B273 L277 L278
  refine (mt_ok c2 sa2 sc2 sz2 sz2.length rfl da2 dc2 dz2 c3 sa3 sc3 sz3 sz3.length rfl da3 dc3 dz3 _ x21 x22 x31 x32 ((HI2.out.1.1.below hb296.out).mono hb296.out.size) ((HI2.out.2.1.1.below hb296.out).mono hb296.out.size) ((HI3.out.1.1.below hb296.out).mono hb296.out.size) ((HI3.out.2.1.1.below hb296.out).mono hb296.out.size) HI2.out.2.2.2 HI3.out.2.2.2 [(Q.length : Int)] Q HMt HQ.out).mono ?_
  rintro e v12 ⟨xa7, xc7, ya7, yc7, rfl, hX7, hY7, hB⟩
  have z297 : wo286.heap.size ≤ v12.heap.size := hB.size
  have B298 : Hid (Abx v12 (w.heap.size) (.bool c1) (.slice sa1 sz1.length sc1) (.slice da1 dz1.length dc1)) := B288.out.go hB
  have B299 : Hid (Abx v12 (w.heap.size + 1) (.bool c2) (.slice sa2 sz2.length sc2) (.slice da2 dz2.length dc2)) := B289.out.go hB
  have B300 : Hid (Abx v12 (w.heap.size + 1 + 1) (.bool c3) (.slice sa3 sz3.length sc3) (.slice da3 dz3.length dc3)) := B290.out.go hB
  have B301 : Hid (Abx v12 (v6.heap.size) (.bool c1) (.slice xa2 1 xc2) (.slice ya2 X.length yc2)) := B291.out.go hB
  have B302 : Hid (Abx v12 (v7.heap.size) (.bool c1) (.slice xa3 1 xc3) (.slice ya3 M.length yc3)) := B292.out.go hB
  have B303 : Hid (Abx v12 (v11.heap.size) (.bool c1) (.slice xa6 1 xc6) (.slice ya6 R.length yc6)) := B293.out.go hB
  have L304 : Hid (MidC (v10.heap.size) (v11.heap.size) v12 (xa6) ([(R.length : Int)]) (xc6)) := L294.out.go (by omega) hB
  have L305 : Hid (MidC (v10.heap.size) (v11.heap.size) v12 (ya6) (R) (yc6)) := L295.out.go (by omega) hB
  have hb306 : Hid (Below w.heap.size w v12) := hb296.out.trans (hB.mono hb296.out.size)
  have L307 : Hid (MidC (wo286.heap.size) (v12.heap.size) v12 (xa7) ([(Q.length : Int)]) (xc7)) := hX7.midc
  have L308 : Hid (MidC (wo286.heap.size) (v12.heap.size) v12 (ya7) (Q) (yc7)) := hY7.midc
  clear hB hb296 B288 B289 B290 B291 B292 B293 L294 L295 hX7 hY7
  have n309 := Abx.new v12 (.bool c2) (.slice xa7 1 xc7) (.slice ya7 Q.length yc7)
  have l310 := ((B298.out.al (.cells #[.bool c2, .slice xa7 1 xc7, .slice ya7 Q.length yc7] 24))).c0
  have l311 := ((B298.out.al (.cells #[.bool c2, .slice xa7 1 xc7, .slice ya7 Q.length yc7] 24))).c1
  have l312 := ((B298.out.al (.cells #[.bool c2, .slice xa7 1 xc7, .slice ya7 Q.length yc7] 24))).c2
  have l313 := (n309).c0
  have l314 := (n309).c1
  have l315 := (n309).c2
  go_wp2_with fail
  obtain ⟨wo316, hwo316⟩ : ∃ wo316, wo316 = (v12.alloc (.cells #[.bool c2, .slice xa7 1 xc7, .slice ya7 Q.length yc7] 24)) := ⟨_, rfl⟩
  rw [← hwo316]
  have z317 : v12.heap.size + 1 ≤ wo316.heap.size := by rw [hwo316]; simp only [World.size_alloc]; omega
  have B318 : Hid (Abx wo316 (w.heap.size) (.bool c1) (.slice sa1 sz1.length sc1) (.slice da1 dz1.length dc1)) := by rw [hwo316]; exact (B298.out.al (.cells #[.bool c2, .slice xa7 1 xc7, .slice ya7 Q.length yc7] 24))
  have B319 : Hid (Abx wo316 (w.heap.size + 1) (.bool c2) (.slice sa2 sz2.length sc2) (.slice da2 dz2.length dc2)) := by rw [hwo316]; exact (B299.out.al (.cells #[.bool c2, .slice xa7 1 xc7, .slice ya7 Q.length yc7] 24))
  have B320 : Hid (Abx wo316 (w.heap.size + 1 + 1) (.bool c3) (.slice sa3 sz3.length sc3) (.slice da3 dz3.length dc3)) := by rw [hwo316]; exact (B300.out.al (.cells #[.bool c2, .slice xa7 1 xc7, .slice ya7 Q.length yc7] 24))
  have B321 : Hid (Abx wo316 (v6.heap.size) (.bool c1) (.slice xa2 1 xc2) (.slice ya2 X.length yc2)) := by rw [hwo316]; exact (B301.out.al (.cells #[.bool c2, .slice xa7 1 xc7, .slice ya7 Q.length yc7] 24))
  have B322 : Hid (Abx wo316 (v7.heap.size) (.bool c1) (.slice xa3 1 xc3) (.slice ya3 M.length yc3)) := by rw [hwo316]; exact (B302.out.al (.cells #[.bool c2, .slice xa7 1 xc7, .slice ya7 Q.length yc7] 24))
  have B323 : Hid (Abx wo316 (v11.heap.size) (.bool c1) (.slice xa6 1 xc6) (.slice ya6 R.length yc6)) := by rw [hwo316]; exact (B303.out.al (.cells #[.bool c2, .slice xa7 1 xc7, .slice ya7 Q.length yc7] 24))
  have B324 : Hid (Abx wo316 (v12.heap.size) (.bool c2) (.slice xa7 1 xc7) (.slice ya7 Q.length yc7)) := by rw [hwo316]; exact n309
  have L325 : Hid (MidC (v10.heap.size) (v11.heap.size) wo316 (xa6) ([(R.length : Int)]) (xc6)) := by rw [hwo316]; exact (L304.out.al (by omega) (.cells #[.bool c2, .slice xa7 1 xc7, .slice ya7 Q.length yc7] 24))
  have L326 : Hid (MidC (v10.heap.size) (v11.heap.size) wo316 (ya6) (R) (yc6)) := by rw [hwo316]; exact (L305.out.al (by omega) (.cells #[.bool c2, .slice xa7 1 xc7, .slice ya7 Q.length yc7] 24))
  have L327 : Hid (MidC (wo286.heap.size) (v12.heap.size) wo316 (xa7) ([(Q.length : Int)]) (xc7)) := by rw [hwo316]; exact (L307.out.al (by omega) (.cells #[.bool c2, .slice xa7 1 xc7, .slice ya7 Q.length yc7] 24))
  have L328 : Hid (MidC (wo286.heap.size) (v12.heap.size) wo316 (ya7) (Q) (yc7)) := by rw [hwo316]; exact (L308.out.al (by omega) (.cells #[.bool c2, .slice xa7 1 xc7, .slice ya7 Q.length yc7] 24))
  have hb329 : Hid (Below w.heap.size w wo316) := by rw [hwo316]; exact (hb306.out.alloc (by omega) (.cells #[.bool c2, .slice xa7 1 xc7, .slice ya7 Q.length yc7] 24))
  have zwo316 : w.heap.size ≤ wo316.heap.size := hb329.out.size
  clear hwo316 n309 l310 l311 l312 l313 l314 l315 hb306 B298 B299 B300 B301 B302 B303 L304 L305 L307 L308
  refine (mt_ok c1 sa1 sc1 sz1 sz1.length rfl da1 dc1 dz1 c2 xa7 xc7 [(Q.length : Int)] 1 rfl ya7 yc7 Q _ x11 x12 (by decide) (by omega) ((HI1.out.1.1.below hb329.out).mono hb329.out.size) ((HI1.out.2.1.1.below hb329.out).mono hb329.out.size) (L327.out.is (by omega)).1 (L328.out.is (by omega)).1 HI1.out.2.2.2 HT.out.2.2.1 [(R.length : Int)] R HMt HR2.out).mono ?_
  rintro e v13 ⟨xa8, xc8, ya8, yc8, rfl, hX8, hY8, hB⟩
  have z330 : wo316.heap.size ≤ v13.heap.size := hB.size
  have B331 : Hid (Abx v13 (w.heap.size) (.bool c1) (.slice sa1 sz1.length sc1) (.slice da1 dz1.length dc1)) := B318.out.go hB
  have B332 : Hid (Abx v13 (w.heap.size + 1) (.bool c2) (.slice sa2 sz2.length sc2) (.slice da2 dz2.length dc2)) := B319.out.go hB
  have B333 : Hid (Abx v13 (w.heap.size + 1 + 1) (.bool c3) (.slice sa3 sz3.length sc3) (.slice da3 dz3.length dc3)) := B320.out.go hB
  have B334 : Hid (Abx v13 (v6.heap.size) (.bool c1) (.slice xa2 1 xc2) (.slice ya2 X.length yc2)) := B321.out.go hB
  have B335 : Hid (Abx v13 (v7.heap.size) (.bool c1) (.slice xa3 1 xc3) (.slice ya3 M.length yc3)) := B322.out.go hB
  have B336 : Hid (Abx v13 (v11.heap.size) (.bool c1) (.slice xa6 1 xc6) (.slice ya6 R.length yc6)) := B323.out.go hB
  have B337 : Hid (Abx v13 (v12.heap.size) (.bool c2) (.slice xa7 1 xc7) (.slice ya7 Q.length yc7)) := B324.out.go hB
  have L338 : Hid (MidC (v10.heap.size) (v11.heap.size) v13 (xa6) ([(R.length : Int)]) (xc6)) := L325.out.go (by omega) hB
  have L339 : Hid (MidC (v10.heap.size) (v11.heap.size) v13 (ya6) (R) (yc6)) := L326.out.go (by omega) hB
  have L340 : Hid (MidC (wo286.heap.size) (v12.heap.size) v13 (xa7) ([(Q.length : Int)]) (xc7)) := L327.out.go (by omega) hB
  have L341 : Hid (MidC (wo286.heap.size) (v12.heap.size) v13 (ya7) (Q) (yc7)) := L328.out.go (by omega) hB
  have hb342 : Hid (Below w.heap.size w v13) := hb329.out.trans (hB.mono hb329.out.size)
  have L343 : Hid (MidC (wo316.heap.size) (v13.heap.size) v13 (xa8) ([(R.length : Int)]) (xc8)) := hX8.midc
  have L344 : Hid (MidC (wo316.heap.size) (v13.heap.size) v13 (ya8) (R) (yc8)) := hY8.midc
  clear hB hb329 B318 B319 B320 B321 B322 B323 B324 L325 L326 L327 L328 hX8 hY8
  clear L340 L341
  have l345 := (B337.out).fr 0
  have l346 := (B337.out).c0
  have l347 := (B337.out).fr 1
  have l348 := (B337.out).c1
  have l349 := (B337.out).fr 2
  have l350 := (B337.out).c2
  have l351 := ((abx_o3 B336.out (B := v12.heap.size) (by omega) (.bool c1) (.slice xa8 1 xc8) (.slice ya8 R.length yc8))).c0
  have l352 := ((abx_o3 B336.out (B := v12.heap.size) (by omega) (.bool c1) (.slice xa8 1 xc8) (.slice ya8 R.length yc8))).c1
  have l353 := ((abx_o3 B336.out (B := v12.heap.size) (by omega) (.bool c1) (.slice xa8 1 xc8) (.slice ya8 R.length yc8))).c2
  have l354 := ((B337.out.set3 (.bool c1) (.slice xa8 1 xc8) (.slice ya8 R.length yc8))).c0
  have l355 := ((B337.out.set3 (.bool c1) (.slice xa8 1 xc8) (.slice ya8 R.length yc8))).c1
  have l356 := ((B337.out.set3 (.bool c1) (.slice xa8 1 xc8) (.slice ya8 R.length yc8))).c2
  go_wp2_with fail
  obtain ⟨wo357, hwo357⟩ : ∃ wo357, wo357 = (((v13.setCell ⟨v12.heap.size, 0, none⟩ (.bool c1)).setCell ⟨v12.heap.size, 1, none⟩ (.slice xa8 1 xc8)).setCell ⟨v12.heap.size, 2, none⟩ (.slice ya8 R.length yc8)) := ⟨_, rfl⟩
  rw [← hwo357]
  have z358 : v13.heap.size ≤ wo357.heap.size := by rw [hwo357]; simp only [World.size_setCell]; omega
  have B359 : Hid (Abx wo357 (w.heap.size) (.bool c1) (.slice sa1 sz1.length sc1) (.slice da1 dz1.length dc1)) := by rw [hwo357]; exact (abx_o3 B331.out (B := v12.heap.size) (by omega) (.bool c1) (.slice xa8 1 xc8) (.slice ya8 R.length yc8))
  have B360 : Hid (Abx wo357 (w.heap.size + 1) (.bool c2) (.slice sa2 sz2.length sc2) (.slice da2 dz2.length dc2)) := by rw [hwo357]; exact (abx_o3 B332.out (B := v12.heap.size) (by omega) (.bool c1) (.slice xa8 1 xc8) (.slice ya8 R.length yc8))
  have B361 : Hid (Abx wo357 (w.heap.size + 1 + 1) (.bool c3) (.slice sa3 sz3.length sc3) (.slice da3 dz3.length dc3)) := by rw [hwo357]; exact (abx_o3 B333.out (B := v12.heap.size) (by omega) (.bool c1) (.slice xa8 1 xc8) (.slice ya8 R.length yc8))
  have B362 : Hid (Abx wo357 (v6.heap.size) (.bool c1) (.slice xa2 1 xc2) (.slice ya2 X.length yc2)) := by rw [hwo357]; exact (abx_o3 B334.out (B := v12.heap.size) (by omega) (.bool c1) (.slice xa8 1 xc8) (.slice ya8 R.length yc8))
  have B363 : Hid (Abx wo357 (v7.heap.size) (.bool c1) (.slice xa3 1 xc3) (.slice ya3 M.length yc3)) := by rw [hwo357]; exact (abx_o3 B335.out (B := v12.heap.size) (by omega) (.bool c1) (.slice xa8 1 xc8) (.slice ya8 R.length yc8))
  have B364 : Hid (Abx wo357 (v11.heap.size) (.bool c1) (.slice xa6 1 xc6) (.slice ya6 R.length yc6)) := by rw [hwo357]; exact (abx_o3 B336.out (B := v12.heap.size) (by omega) (.bool c1) (.slice xa8 1 xc8) (.slice ya8 R.length yc8))
  have B365 : Hid (Abx wo357 (v12.heap.size) (.bool c1) (.slice xa8 1 xc8) (.slice ya8 R.length yc8)) := by rw [hwo357]; exact (B337.out.set3 (.bool c1) (.slice xa8 1 xc8) (.slice ya8 R.length yc8))
  have L366 : Hid (MidC (v10.heap.size) (v11.heap.size) wo357 (xa6) ([(R.length : Int)]) (xc6)) := by rw [hwo357]; exact (L338.out.s3 (b := v12.heap.size) (by omega) (.bool c1) (.slice xa8 1 xc8) (.slice ya8 R.length yc8))
  have L367 : Hid (MidC (v10.heap.size) (v11.heap.size) wo357 (ya6) (R) (yc6)) := by rw [hwo357]; exact (L339.out.s3 (b := v12.heap.size) (by omega) (.bool c1) (.slice xa8 1 xc8) (.slice ya8 R.length yc8))
  have L368 : Hid (MidC (wo316.heap.size) (v13.heap.size) wo357 (xa8) ([(R.length : Int)]) (xc8)) := by rw [hwo357]; exact (L343.out.s3 (b := v12.heap.size) (by omega) (.bool c1) (.slice xa8 1 xc8) (.slice ya8 R.length yc8))
  have L369 : Hid (MidC (wo316.heap.size) (v13.heap.size) wo357 (ya8) (R) (yc8)) := by rw [hwo357]; exact (L344.out.s3 (b := v12.heap.size) (by omega) (.bool c1) (.slice xa8 1 xc8) (.slice ya8 R.length yc8))
  have hb370 : Hid (Below w.heap.size w wo357) := by rw [hwo357]; exact (bel_s3 hb342.out (B := v12.heap.size) (by omega) (.bool c1) (.slice xa8 1 xc8) (.slice ya8 R.length yc8))
  have zwo357 : w.heap.size ≤ wo357.heap.size := hb370.out.size
  clear hwo357 l345 l346 l347 l348 l349 l350 l351 l352 l353 l354 l355 l356 hb342 B331 B332 B333 B334 B335 B336 B337 L338 L339 L343 L344
  refine (alike_eq c1 xa6 xc6 [(R.length : Int)] ya6 yc6 R xa8 xc8 [(R.length : Int)] ya8 yc8 R rfl rfl (by simp) (by omega) _ (L366.out.is (by omega)) (L367.out.is (by omega)).1 (L368.out.is (by omega)) (L369.out.is (by omega)).1).mono ?_
  rintro e v14 ⟨rfl, hB⟩
  have z371 : wo357.heap.size ≤ v14.heap.size := hB.size
  have B372 : Hid (Abx v14 (w.heap.size) (.bool c1) (.slice sa1 sz1.length sc1) (.slice da1 dz1.length dc1)) := B359.out.go hB
  have B373 : Hid (Abx v14 (w.heap.size + 1) (.bool c2) (.slice sa2 sz2.length sc2) (.slice da2 dz2.length dc2)) := B360.out.go hB
  have B374 : Hid (Abx v14 (w.heap.size + 1 + 1) (.bool c3) (.slice sa3 sz3.length sc3) (.slice da3 dz3.length dc3)) := B361.out.go hB
  have B375 : Hid (Abx v14 (v6.heap.size) (.bool c1) (.slice xa2 1 xc2) (.slice ya2 X.length yc2)) := B362.out.go hB
  have B376 : Hid (Abx v14 (v7.heap.size) (.bool c1) (.slice xa3 1 xc3) (.slice ya3 M.length yc3)) := B363.out.go hB
  have B377 : Hid (Abx v14 (v11.heap.size) (.bool c1) (.slice xa6 1 xc6) (.slice ya6 R.length yc6)) := B364.out.go hB
  have B378 : Hid (Abx v14 (v12.heap.size) (.bool c1) (.slice xa8 1 xc8) (.slice ya8 R.length yc8)) := B365.out.go hB
  have L379 : Hid (MidC (v10.heap.size) (v11.heap.size) v14 (xa6) ([(R.length : Int)]) (xc6)) := L366.out.go (by omega) hB
  have L380 : Hid (MidC (v10.heap.size) (v11.heap.size) v14 (ya6) (R) (yc6)) := L367.out.go (by omega) hB
  have L381 : Hid (MidC (wo316.heap.size) (v13.heap.size) v14 (xa8) ([(R.length : Int)]) (xc8)) := L368.out.go (by omega) hB
  have L382 : Hid (MidC (wo316.heap.size) (v13.heap.size) v14 (ya8) (R) (yc8)) := L369.out.go (by omega) hB
  have hb383 : Hid (Below w.heap.size w v14) := hb370.out.trans (hB.mono hb370.out.size)
  clear hB hb370 B359 B360 B361 B362 B363 B364 B365 L366 L367 L368 L369
  clear L379 L380 L381 L382 B377 B378
  have te : ((X.length : Int) + (M.length : Int) == (dz1.length : Int)) = true := by have := HS.out; simp; omega
  have l384 := (B375.out).c0
  have l385 := (B375.out).c1
  have l386 := (B375.out).c2
  have l387 := (B376.out).c0
  have l388 := (B376.out).c1
  have l389 := (B376.out).c2
  have l390 := (B372.out).c0
  have l391 := (B372.out).c1
  have l392 := (B372.out).c2
  go_wp2_with fail
  clear l384 l385 l386 l387 l388 l389 l390 l391 l392
  go_ret
  exact ⟨rfl, hb383.out⟩
theorem salgebra_walk (HWo : CWo) (HMt : CMt) (HUn : CUn) (c1 : Bool) (sa1 : Option Addr) (sc1 : Nat) (sz1 : List Int) (da1 : Option Addr) (dc1 : Nat) (dz1 : List Int) (c2 : Bool) (sa2 : Option Addr) (sc2 : Nat) (sz2 : List Int) (da2 : Option Addr) (dc2 : Nat) (dz2 : List Int) (c3 : Bool) (sa3 : Option Addr) (sc3 : Nat) (sz3 : List Int) (da3 : Option Addr) (dc3 : Nat) (dz3 : List Int) (w : World) (w8 : IsArrD w sa1 sz1 sc1 da1 dz1 dc1) (w9 : IsArrD w sa2 sz2 sc2 da2 dz2 dc2) (w10 : IsArrD w sa3 sz3 sc3 da3 dz3 dc3) :
    Calls Try.prog 5 #[.agg #[.bool c1, .slice sa1 sz1.length sc1, .slice da1 dz1.length dc1], .agg #[.bool c2, .slice sa2 sz2.length sc2, .slice da2 dz2.length dc2], .agg #[.bool c3, .slice sa3 sz3.length sc3, .slice da3 dz3.length dc3]] w fun e w' => e = .returned (.bool true) ∧ Below w.heap.size w w' := by
  by_cases h1 : unE c2 sz2 dz2 c3 sz3 dz3 = 0
  · by_cases h2 : lsE c1 sz1 dz1 c2 sz2 dz2 = 0
    · exact algebra_ok HWo HMt HUn c1 sa1 sc1 sz1 da1 dc1 dz1 c2 sa2 sc2 sz2 da2 dc2 dz2 c3 sa3 sc3 sz3 da3 dc3 dz3 w w8 w9 w10 h1 h2
    · exact algebra_no2 HWo HMt HUn c1 sa1 sc1 sz1 da1 dc1 dz1 c2 sa2 sc2 sz2 da2 dc2 dz2 c3 sa3 sc3 sz3 da3 dc3 dz3 w w8 w9 w10 h1 h2
  · exact algebra_no1 HWo HMt HUn c1 sa1 sc1 sz1 da1 dc1 dz1 c2 sa2 sc2 sz2 da2 dc2 dz2 c3 sa3 sc3 sz3 da3 dc3 dz3 w w8 w9 w10 h1
end Go.Proofs.Yteieliajdfbipaa
