/-
  The walk of the statement ProdParts, given what the program tells.
-/
import Derived.Test.YtcpmendkocnlhabPrdz
import Derived.Test.YtcpmendkocnlhabPrdw
import Derived.Test.YtcpmendkocnlhabPrdy
import Derived.Test.YtcpmendkocnlhabFldx
import Derived.Test.YtcpmendkocnlhabMidc
import Derived.Test.YtcpmendkocnlhabSarr
namespace Go.Proofs.Ytcpmendkocnlhab
open Go.RowKit
set_option linter.unusedVariables false

set_option maxRecDepth 100000 in
set_option maxHeartbeats 8000000 in
theorem parts_j (HOt : COt) (HJn : CJn) (HRd : CRd) (H2 : C2d) (f : Int) (hf : In64 f) (c1 : Bool) (sa1 : Option Addr) (sc1 : Nat) (sz1 : List Int) (da1 : Option Addr) (dc1 : Nat) (dz1 : List Int) (c2 : Bool) (sa2 : Option Addr) (sc2 : Nat) (sz2 : List Int) (da2 : Option Addr) (dc2 : Nat) (dz2 : List Int) (c3 : Bool) (sa3 : Option Addr) (sc3 : Nat) (sz3 : List Int) (da3 : Option Addr) (dc3 : Nat) (dz3 : List Int) (w : World) (w8 : IsArrD w sa1 sz1 sc1 da1 dz1 dc1) (w9 : IsArrD w sa2 sz2 sc2 da2 dz2 dc2) (w10 : IsArrD w sa3 sz3 sc3 da3 dz3 dc3) (J : Hid (jnE 0 c1 sz1 dz1 c2 sz2 dz2 ≠ 0)) :
    Calls Try.prog 4 #[.int .i64 f, .agg #[.bool c1, .slice sa1 sz1.length sc1, .slice da1 dz1.length dc1], .agg #[.bool c2, .slice sa2 sz2.length sc2, .slice da2 dz2.length dc2], .agg #[.bool c3, .slice sa3 sz3.length sc3, .slice da3 dz3.length dc3]] w fun e w' => e = .returned (.bool true) ∧ Below w.heap.size w w' := by
  obtain ⟨x11, x12, x3, x4, s64, T⟩ := w8
  have HI1 : Hid (IsC w.heap.size w sa1 sz1 sc1 ∧ IsC w.heap.size w da1 dz1 dc1 ∧ (∀ j, In64 (nth sz1 j)) ∧ ∀ j, In64 (nth dz1 j)) := ⟨x3, x4, s64, T⟩
  clear x3 x4 T s64
  obtain ⟨x21, x22, x3, x4, s64, T⟩ := w9
  have HI2 : Hid (IsC w.heap.size w sa2 sz2 sc2 ∧ IsC w.heap.size w da2 dz2 dc2 ∧ (∀ j, In64 (nth sz2 j)) ∧ ∀ j, In64 (nth dz2 j)) := ⟨x3, x4, s64, T⟩
  clear x3 x4 T s64
  obtain ⟨x31, x32, x3, x4, s64, T⟩ := w10
  have HI3 : Hid (IsC w.heap.size w sa3 sz3 sc3 ∧ IsC w.heap.size w da3 dz3 dc3 ∧ (∀ j, In64 (nth sz3 j)) ∧ ∀ j, In64 (nth dz3 j)) := ⟨x3, x4, s64, T⟩
  clear x3 x4 T s64
  have n1 := Abx.new w (.bool c1) (.slice sa1 sz1.length sc1) (.slice da1 dz1.length dc1)
  have n2 := Abx.new (w.alloc (.cells #[.bool c1, .slice sa1 sz1.length sc1, .slice da1 dz1.length dc1] 24)) (.bool c2) (.slice sa2 sz2.length sc2) (.slice da2 dz2.length dc2)
  simp only [World.size_alloc] at n2
  have n3 := Abx.new ((w.alloc (.cells #[.bool c1, .slice sa1 sz1.length sc1, .slice da1 dz1.length dc1] 24)).alloc (.cells #[.bool c2, .slice sa2 sz2.length sc2, .slice da2 dz2.length dc2] 24)) (.bool c3) (.slice sa3 sz3.length sc3) (.slice da3 dz3.length dc3)
  simp only [World.size_alloc] at n3
  have n4 := lit_mid (((w.alloc (.cells #[.bool c1, .slice sa1 sz1.length sc1, .slice da1 dz1.length dc1] 24)).alloc (.cells #[.bool c2, .slice sa2 sz2.length sc2, .slice da2 dz2.length dc2] 24)).alloc (.cells #[.bool c3, .slice sa3 sz3.length sc3, .slice da3 dz3.length dc3] 24)) 3 [5, 7] 2 rfl
  simp only [World.size_alloc, List.map_cons, List.map_nil] at n4
  go_enter Try.func4, Try.ntmps4
  go_wp2_with fail
  obtain ⟨wo5, hwo5⟩ : ∃ wo5, wo5 = ((((w.alloc (.cells #[.bool c1, .slice sa1 sz1.length sc1, .slice da1 dz1.length dc1] 24)).alloc (.cells #[.bool c2, .slice sa2 sz2.length sc2, .slice da2 dz2.length dc2] 24)).alloc (.cells #[.bool c3, .slice sa3 sz3.length sc3, .slice da3 dz3.length dc3] 24)).alloc (.cells #[.int .i64 5, .int .i64 7] 3)) := ⟨_, rfl⟩
  rw [← hwo5]
  have z6 : w.heap.size + 1 + 1 + 1 + 1 ≤ wo5.heap.size := by rw [hwo5]; simp only [World.size_alloc]; omega
  have B7 : Hid (Abx wo5 (w.heap.size) (.bool c1) (.slice sa1 sz1.length sc1) (.slice da1 dz1.length dc1)) := by rw [hwo5]; exact (((n1.al (.cells #[.bool c2, .slice sa2 sz2.length sc2, .slice da2 dz2.length dc2] 24)).al (.cells #[.bool c3, .slice sa3 sz3.length sc3, .slice da3 dz3.length dc3] 24)).al (.cells #[.int .i64 5, .int .i64 7] 3))
  have B8 : Hid (Abx wo5 (w.heap.size + 1) (.bool c2) (.slice sa2 sz2.length sc2) (.slice da2 dz2.length dc2)) := by rw [hwo5]; exact ((n2.al (.cells #[.bool c3, .slice sa3 sz3.length sc3, .slice da3 dz3.length dc3] 24)).al (.cells #[.int .i64 5, .int .i64 7] 3))
  have B9 : Hid (Abx wo5 (w.heap.size + 1 + 1) (.bool c3) (.slice sa3 sz3.length sc3) (.slice da3 dz3.length dc3)) := by rw [hwo5]; exact (n3.al (.cells #[.int .i64 5, .int .i64 7] 3))
  have L10 : Hid (MidC (w.heap.size + 1 + 1 + 1) (w.heap.size + 1 + 1 + 1 + 1) wo5 (some ⟨w.heap.size + 1 + 1 + 1, 0, none⟩) ([5, 7]) (2)) := by rw [hwo5]; exact n4
  have hb11 : Hid (Below w.heap.size w wo5) := by rw [hwo5]; exact (((((Below.refl w.heap.size w).alloc (by omega) (.cells #[.bool c1, .slice sa1 sz1.length sc1, .slice da1 dz1.length dc1] 24)).alloc (by simp only [World.size_alloc]; omega) (.cells #[.bool c2, .slice sa2 sz2.length sc2, .slice da2 dz2.length dc2] 24)).alloc (by simp only [World.size_alloc]; omega) (.cells #[.bool c3, .slice sa3 sz3.length sc3, .slice da3 dz3.length dc3] 24)).alloc (by simp only [World.size_alloc]; omega) (.cells #[.int .i64 5, .int .i64 7] 3))
  have zwo5 : w.heap.size ≤ wo5.heap.size := hb11.out.size
  clear hwo5 n1 n2 n3 n4
  refine (vec_c (some ⟨w.heap.size + 1 + 1 + 1, 0, none⟩) 2 [5, 7] (by simp) _ (L10.out.is (by omega)).1).mono ?_
  rintro e v1 ⟨vap, vcp, gap, gcp, rfl, hVp, hGp, hB⟩
  have z12 : wo5.heap.size ≤ v1.heap.size := hB.size
  have B13 : Hid (Abx v1 (w.heap.size) (.bool c1) (.slice sa1 sz1.length sc1) (.slice da1 dz1.length dc1)) := B7.out.go hB
  have B14 : Hid (Abx v1 (w.heap.size + 1) (.bool c2) (.slice sa2 sz2.length sc2) (.slice da2 dz2.length dc2)) := B8.out.go hB
  have B15 : Hid (Abx v1 (w.heap.size + 1 + 1) (.bool c3) (.slice sa3 sz3.length sc3) (.slice da3 dz3.length dc3)) := B9.out.go hB
  have L16 : Hid (MidC (w.heap.size + 1 + 1 + 1) (w.heap.size + 1 + 1 + 1 + 1) v1 (some ⟨w.heap.size + 1 + 1 + 1, 0, none⟩) ([5, 7]) (2)) := L10.out.go (by omega) hB
  have hb17 : Hid (Below w.heap.size w v1) := hb11.out.trans (hB.mono hb11.out.size)
  have L18 : Hid (MidC (wo5.heap.size) (v1.heap.size) v1 (vap) ([(2 : Int)]) (vcp)) := hVp.midc
  have L19 : Hid (MidC (wo5.heap.size) (v1.heap.size) v1 (gap) ([5, 7]) (gcp)) := hGp.midc
  clear hB hb11 B7 B8 B9 L10 hVp hGp
  clear L16
  have n20 := lit_mid v1 3 [1, 2] 2 rfl
  simp only [List.map_cons, List.map_nil] at n20
  go_wp2_with fail
  obtain ⟨wo21, hwo21⟩ : ∃ wo21, wo21 = (v1.alloc (.cells #[.int .i64 1, .int .i64 2] 3)) := ⟨_, rfl⟩
  rw [← hwo21]
  have z22 : v1.heap.size + 1 ≤ wo21.heap.size := by rw [hwo21]; simp only [World.size_alloc]; omega
  have B23 : Hid (Abx wo21 (w.heap.size) (.bool c1) (.slice sa1 sz1.length sc1) (.slice da1 dz1.length dc1)) := by rw [hwo21]; exact (B13.out.al (.cells #[.int .i64 1, .int .i64 2] 3))
  have B24 : Hid (Abx wo21 (w.heap.size + 1) (.bool c2) (.slice sa2 sz2.length sc2) (.slice da2 dz2.length dc2)) := by rw [hwo21]; exact (B14.out.al (.cells #[.int .i64 1, .int .i64 2] 3))
  have B25 : Hid (Abx wo21 (w.heap.size + 1 + 1) (.bool c3) (.slice sa3 sz3.length sc3) (.slice da3 dz3.length dc3)) := by rw [hwo21]; exact (B15.out.al (.cells #[.int .i64 1, .int .i64 2] 3))
  have L26 : Hid (MidC (wo5.heap.size) (v1.heap.size) wo21 (vap) ([(2 : Int)]) (vcp)) := by rw [hwo21]; exact (L18.out.al (by omega) (.cells #[.int .i64 1, .int .i64 2] 3))
  have L27 : Hid (MidC (wo5.heap.size) (v1.heap.size) wo21 (gap) ([5, 7]) (gcp)) := by rw [hwo21]; exact (L19.out.al (by omega) (.cells #[.int .i64 1, .int .i64 2] 3))
  have L28 : Hid (MidC (v1.heap.size) (v1.heap.size + 1) wo21 (some ⟨v1.heap.size, 0, none⟩) ([1, 2]) (2)) := by rw [hwo21]; exact n20
  have hb29 : Hid (Below w.heap.size w wo21) := by rw [hwo21]; exact (hb17.out.alloc (by omega) (.cells #[.int .i64 1, .int .i64 2] 3))
  have zwo21 : w.heap.size ≤ wo21.heap.size := hb29.out.size
  clear hwo21 n20 hb17 B13 B14 B15 L18 L19
  refine (vec_c (some ⟨v1.heap.size, 0, none⟩) 2 [1, 2] (by simp) _ (L28.out.is (by omega)).1).mono ?_
  rintro e v2 ⟨vaq, vcq, gaq, gcq, rfl, hVq, hGq, hB⟩
  have z30 : wo21.heap.size ≤ v2.heap.size := hB.size
  have B31 : Hid (Abx v2 (w.heap.size) (.bool c1) (.slice sa1 sz1.length sc1) (.slice da1 dz1.length dc1)) := B23.out.go hB
  have B32 : Hid (Abx v2 (w.heap.size + 1) (.bool c2) (.slice sa2 sz2.length sc2) (.slice da2 dz2.length dc2)) := B24.out.go hB
  have B33 : Hid (Abx v2 (w.heap.size + 1 + 1) (.bool c3) (.slice sa3 sz3.length sc3) (.slice da3 dz3.length dc3)) := B25.out.go hB
  have L34 : Hid (MidC (wo5.heap.size) (v1.heap.size) v2 (vap) ([(2 : Int)]) (vcp)) := L26.out.go (by omega) hB
  have L35 : Hid (MidC (wo5.heap.size) (v1.heap.size) v2 (gap) ([5, 7]) (gcp)) := L27.out.go (by omega) hB
  have L36 : Hid (MidC (v1.heap.size) (v1.heap.size + 1) v2 (some ⟨v1.heap.size, 0, none⟩) ([1, 2]) (2)) := L28.out.go (by omega) hB
  have hb37 : Hid (Below w.heap.size w v2) := hb29.out.trans (hB.mono hb29.out.size)
  have L38 : Hid (MidC (wo21.heap.size) (v2.heap.size) v2 (vaq) ([(2 : Int)]) (vcq)) := hVq.midc
  have L39 : Hid (MidC (wo21.heap.size) (v2.heap.size) v2 (gaq) ([1, 2]) (gcq)) := hGq.midc
  clear hB hb29 B23 B24 B25 L26 L27 L28 hVq hGq
  clear L36
  go_wp2_with fail
  refine (otw_ok 2 false vap vcp [(2 : Int)] 1 rfl gap gcp [5, 7] 2 rfl false vaq vcq [(2 : Int)] 1 rfl gaq gcq [1, 2] 2 rfl _ (by unfold In64; decide) (by decide) (by decide) (L34.out.is (by omega)).1 (L35.out.is (by omega)).1 (lit12 (by decide)) (by decide) (by decide) (L38.out.is (by omega)).1 (L39.out.is (by omega)).1 (lit12 (by decide)) [2, 2] [4, 3, 6, 5] HOt (by show otE 2 false [2] [5, 7] false [2] [1, 2] = 0 ∧ [(2 : Int)] ++ [2] = [2, 2] ∧ otD 2 false [2] [5, 7] false [2] [1, 2] = [4, 3, 6, 5]; decide +kernel)).mono ?_
  rintro e v3 ⟨f1, g1, f2, g2, rfl, hX0, hY0, hB⟩
  have z40 : v2.heap.size ≤ v3.heap.size := hB.size
  have B41 : Hid (Abx v3 (w.heap.size) (.bool c1) (.slice sa1 sz1.length sc1) (.slice da1 dz1.length dc1)) := B31.out.go hB
  have B42 : Hid (Abx v3 (w.heap.size + 1) (.bool c2) (.slice sa2 sz2.length sc2) (.slice da2 dz2.length dc2)) := B32.out.go hB
  have B43 : Hid (Abx v3 (w.heap.size + 1 + 1) (.bool c3) (.slice sa3 sz3.length sc3) (.slice da3 dz3.length dc3)) := B33.out.go hB
  have L44 : Hid (MidC (wo5.heap.size) (v1.heap.size) v3 (vap) ([(2 : Int)]) (vcp)) := L34.out.go (by omega) hB
  have L45 : Hid (MidC (wo5.heap.size) (v1.heap.size) v3 (gap) ([5, 7]) (gcp)) := L35.out.go (by omega) hB
  have L46 : Hid (MidC (wo21.heap.size) (v2.heap.size) v3 (vaq) ([(2 : Int)]) (vcq)) := L38.out.go (by omega) hB
  have L47 : Hid (MidC (wo21.heap.size) (v2.heap.size) v3 (gaq) ([1, 2]) (gcq)) := L39.out.go (by omega) hB
  have hb48 : Hid (Below w.heap.size w v3) := hb37.out.trans (hB.mono hb37.out.size)
  have L49 : Hid (MidC (v2.heap.size) (v3.heap.size) v3 (f1) ([2, 2]) (g1)) := hX0.midc
  have L50 : Hid (MidC (v2.heap.size) (v3.heap.size) v3 (f2) ([4, 3, 6, 5]) (g2)) := hY0.midc
  clear hB hb37 B31 B32 B33 L34 L35 L38 L39 hX0 hY0
  clear L44 L45 L46 L47
  have n51 := Abx.new v3 (.bool false) (.slice f1 2 g1) (.slice f2 4 g2)
  have l52 := (n51).c0
  have l53 := (n51).c1
  have l54 := (n51).c2
  have n55 := lit_mid (v3.alloc (.cells #[.bool false, .slice f1 2 g1, .slice f2 4 g2] 24)) 3 [4, 3, 6, 5] 4 rfl
  simp only [World.size_alloc, List.map_cons, List.map_nil] at n55
  go_wp2_with fail
  obtain ⟨wo56, hwo56⟩ : ∃ wo56, wo56 = ((v3.alloc (.cells #[.bool false, .slice f1 2 g1, .slice f2 4 g2] 24)).alloc (.cells #[.int .i64 4, .int .i64 3, .int .i64 6, .int .i64 5] 3)) := ⟨_, rfl⟩
  rw [← hwo56]
  have z57 : v3.heap.size + 1 + 1 ≤ wo56.heap.size := by rw [hwo56]; simp only [World.size_alloc]; omega
  have B58 : Hid (Abx wo56 (w.heap.size) (.bool c1) (.slice sa1 sz1.length sc1) (.slice da1 dz1.length dc1)) := by rw [hwo56]; exact ((B41.out.al (.cells #[.bool false, .slice f1 2 g1, .slice f2 4 g2] 24)).al (.cells #[.int .i64 4, .int .i64 3, .int .i64 6, .int .i64 5] 3))
  have B59 : Hid (Abx wo56 (w.heap.size + 1) (.bool c2) (.slice sa2 sz2.length sc2) (.slice da2 dz2.length dc2)) := by rw [hwo56]; exact ((B42.out.al (.cells #[.bool false, .slice f1 2 g1, .slice f2 4 g2] 24)).al (.cells #[.int .i64 4, .int .i64 3, .int .i64 6, .int .i64 5] 3))
  have B60 : Hid (Abx wo56 (w.heap.size + 1 + 1) (.bool c3) (.slice sa3 sz3.length sc3) (.slice da3 dz3.length dc3)) := by rw [hwo56]; exact ((B43.out.al (.cells #[.bool false, .slice f1 2 g1, .slice f2 4 g2] 24)).al (.cells #[.int .i64 4, .int .i64 3, .int .i64 6, .int .i64 5] 3))
  have B61 : Hid (Abx wo56 (v3.heap.size) (.bool false) (.slice f1 2 g1) (.slice f2 4 g2)) := by rw [hwo56]; exact (n51.al (.cells #[.int .i64 4, .int .i64 3, .int .i64 6, .int .i64 5] 3))
  have L62 : Hid (MidC (v2.heap.size) (v3.heap.size) wo56 (f1) ([2, 2]) (g1)) := by rw [hwo56]; exact ((L49.out.al (by omega) (.cells #[.bool false, .slice f1 2 g1, .slice f2 4 g2] 24)).al (by simp only [World.size_alloc]; omega) (.cells #[.int .i64 4, .int .i64 3, .int .i64 6, .int .i64 5] 3))
  have L63 : Hid (MidC (v2.heap.size) (v3.heap.size) wo56 (f2) ([4, 3, 6, 5]) (g2)) := by rw [hwo56]; exact ((L50.out.al (by omega) (.cells #[.bool false, .slice f1 2 g1, .slice f2 4 g2] 24)).al (by simp only [World.size_alloc]; omega) (.cells #[.int .i64 4, .int .i64 3, .int .i64 6, .int .i64 5] 3))
  have L64 : Hid (MidC (v3.heap.size + 1) (v3.heap.size + 1 + 1) wo56 (some ⟨v3.heap.size + 1, 0, none⟩) ([4, 3, 6, 5]) (4)) := by rw [hwo56]; exact n55
  have hb65 : Hid (Below w.heap.size w wo56) := by rw [hwo56]; exact ((hb48.out.alloc (by omega) (.cells #[.bool false, .slice f1 2 g1, .slice f2 4 g2] 24)).alloc (by simp only [World.size_alloc]; omega) (.cells #[.int .i64 4, .int .i64 3, .int .i64 6, .int .i64 5] 3))
  have zwo56 : w.heap.size ≤ wo56.heap.size := hb65.out.size
  clear hwo56 n51 l52 l53 l54 n55 hb48 B41 B42 B43 L49 L50
  refine (ints_any f2 g2 [4, 3, 6, 5] (some ⟨v3.heap.size + 1, 0, none⟩) 4 [4, 3, 6, 5] (by simp) _ _ (L63.out.is (by omega)).1 (L64.out.is (by omega)).1).mono ?_
  rintro e v4 ⟨rfl, hB⟩
  have z66 : wo56.heap.size ≤ v4.heap.size := hB.size
  have B67 : Hid (Abx v4 (w.heap.size) (.bool c1) (.slice sa1 sz1.length sc1) (.slice da1 dz1.length dc1)) := B58.out.go hB
  have B68 : Hid (Abx v4 (w.heap.size + 1) (.bool c2) (.slice sa2 sz2.length sc2) (.slice da2 dz2.length dc2)) := B59.out.go hB
  have B69 : Hid (Abx v4 (w.heap.size + 1 + 1) (.bool c3) (.slice sa3 sz3.length sc3) (.slice da3 dz3.length dc3)) := B60.out.go hB
  have B70 : Hid (Abx v4 (v3.heap.size) (.bool false) (.slice f1 2 g1) (.slice f2 4 g2)) := B61.out.go hB
  have L71 : Hid (MidC (v2.heap.size) (v3.heap.size) v4 (f1) ([2, 2]) (g1)) := L62.out.go (by omega) hB
  have L72 : Hid (MidC (v2.heap.size) (v3.heap.size) v4 (f2) ([4, 3, 6, 5]) (g2)) := L63.out.go (by omega) hB
  have L73 : Hid (MidC (v3.heap.size + 1) (v3.heap.size + 1 + 1) v4 (some ⟨v3.heap.size + 1, 0, none⟩) ([4, 3, 6, 5]) (4)) := L64.out.go (by omega) hB
  have hb74 : Hid (Below w.heap.size w v4) := hb65.out.trans (hB.mono hb65.out.size)
  clear hB hb65 B58 B59 B60 B61 L62 L63 L64
  rw [eqB_true rfl]
  clear L71 L72 L73 B70
  have l75 := (B67.out).c0
  have l76 := (B67.out).c1
  have l77 := (B67.out).c2
  have l78 := (B68.out).c0
  have l79 := (B68.out).c1
  have l80 := (B68.out).c2
  go_wp2_with fail
  clear l75 l76 l77 l78 l79 l80
  refine (jn_no 0 (by unfold In64; decide) c1 sa1 sc1 sz1 da1 dc1 dz1 c2 sa2 sc2 sz2 da2 dc2 dz2 _ x11 x12 ((HI1.out.1.below hb74.out).mono hb74.out.size) ((HI1.out.2.1.below hb74.out).mono hb74.out.size) HI1.out.2.2.2 x21 x22 ((HI2.out.1.below hb74.out).mono hb74.out.size) ((HI2.out.2.1.below hb74.out).mono hb74.out.size) HI2.out.2.2.2 HJn J.out).mono ?_
  rintro e v5 ⟨xa1, xc1, ya1, yc1, rfl, hB⟩
  have z81 : v4.heap.size ≤ v5.heap.size := hB.size
  have B82 : Hid (Abx v5 (w.heap.size) (.bool c1) (.slice sa1 sz1.length sc1) (.slice da1 dz1.length dc1)) := B67.out.go hB
  have B83 : Hid (Abx v5 (w.heap.size + 1) (.bool c2) (.slice sa2 sz2.length sc2) (.slice da2 dz2.length dc2)) := B68.out.go hB
  have B84 : Hid (Abx v5 (w.heap.size + 1 + 1) (.bool c3) (.slice sa3 sz3.length sc3) (.slice da3 dz3.length dc3)) := B69.out.go hB
  have hb85 : Hid (Below w.heap.size w v5) := hb74.out.trans (hB.mono hb74.out.size)
  clear hB hb74 B67 B68 B69
  have n86 := Abx.new v5 (.bool false) (.slice xa1 0 xc1) (.slice ya1 0 yc1)
  go_wp2_with fail
  obtain ⟨wo87, hwo87⟩ : ∃ wo87, wo87 = (v5.alloc (.cells #[.bool false, .slice xa1 0 xc1, .slice ya1 0 yc1] 24)) := ⟨_, rfl⟩
  rw [← hwo87]
  have z88 : v5.heap.size + 1 ≤ wo87.heap.size := by rw [hwo87]; simp only [World.size_alloc]; omega
  have B89 : Hid (Abx wo87 (w.heap.size) (.bool c1) (.slice sa1 sz1.length sc1) (.slice da1 dz1.length dc1)) := by rw [hwo87]; exact (B82.out.al (.cells #[.bool false, .slice xa1 0 xc1, .slice ya1 0 yc1] 24))
  have B90 : Hid (Abx wo87 (w.heap.size + 1) (.bool c2) (.slice sa2 sz2.length sc2) (.slice da2 dz2.length dc2)) := by rw [hwo87]; exact (B83.out.al (.cells #[.bool false, .slice xa1 0 xc1, .slice ya1 0 yc1] 24))
  have B91 : Hid (Abx wo87 (w.heap.size + 1 + 1) (.bool c3) (.slice sa3 sz3.length sc3) (.slice da3 dz3.length dc3)) := by rw [hwo87]; exact (B84.out.al (.cells #[.bool false, .slice xa1 0 xc1, .slice ya1 0 yc1] 24))
  have B92 : Hid (Abx wo87 (v5.heap.size) (.bool false) (.slice xa1 0 xc1) (.slice ya1 0 yc1)) := by rw [hwo87]; exact n86
  have hb93 : Hid (Below w.heap.size w wo87) := by rw [hwo87]; exact (hb85.out.alloc (by omega) (.cells #[.bool false, .slice xa1 0 xc1, .slice ya1 0 yc1] 24))
  have zwo87 : w.heap.size ≤ wo87.heap.size := hb93.out.size
  clear hwo87 n86 hb85 B82 B83 B84
  go_ret
  exact ⟨rfl, hb93.out⟩
set_option maxRecDepth 100000 in
set_option maxHeartbeats 8000000 in
theorem parts_o (HOt : COt) (HJn : CJn) (HRd : CRd) (H2 : C2d) (f : Int) (hf : In64 f) (c1 : Bool) (sa1 : Option Addr) (sc1 : Nat) (sz1 : List Int) (da1 : Option Addr) (dc1 : Nat) (dz1 : List Int) (c2 : Bool) (sa2 : Option Addr) (sc2 : Nat) (sz2 : List Int) (da2 : Option Addr) (dc2 : Nat) (dz2 : List Int) (c3 : Bool) (sa3 : Option Addr) (sc3 : Nat) (sz3 : List Int) (da3 : Option Addr) (dc3 : Nat) (dz3 : List Int) (w : World) (w8 : IsArrD w sa1 sz1 sc1 da1 dz1 dc1) (w9 : IsArrD w sa2 sz2 sc2 da2 dz2 dc2) (w10 : IsArrD w sa3 sz3 sc3 da3 dz3 dc3) (J : Hid (jnE 0 c1 sz1 dz1 c2 sz2 dz2 = 0)) (O : ∀ S0 D0, jnS (0 : Int).toNat sz1 sz2 = S0 → jnD (0 : Int).toNat sz1 dz1 sz2 dz2 = D0 → otE f c1 S0 D0 c3 sz3 dz3 ≠ 0) :
    Calls Try.prog 4 #[.int .i64 f, .agg #[.bool c1, .slice sa1 sz1.length sc1, .slice da1 dz1.length dc1], .agg #[.bool c2, .slice sa2 sz2.length sc2, .slice da2 dz2.length dc2], .agg #[.bool c3, .slice sa3 sz3.length sc3, .slice da3 dz3.length dc3]] w fun e w' => e = .returned (.bool true) ∧ Below w.heap.size w w' := by
  obtain ⟨S0, hS0⟩ : ∃ S0, jnS (0 : Int).toNat sz1 sz2 = S0 := ⟨_, rfl⟩
  obtain ⟨D0, hD0⟩ : ∃ D0, jnD (0 : Int).toNat sz1 dz1 sz2 dz2 = D0 := ⟨_, rfl⟩
  have HJ : Hid (jnE 0 c1 sz1 dz1 c2 sz2 dz2 = 0 ∧ jnS (0 : Int).toNat sz1 sz2 = S0 ∧ jnD (0 : Int).toNat sz1 dz1 sz2 dz2 = D0) := ⟨J.out, hS0, hD0⟩
  have HJT : Hid (∀ j, In64 (nth D0 j)) := by rw [← hD0]; exact jn_64 J.out w8.2.2.2.2.2 w9.2.2.2.2.2
  have LJ : S0.length ≤ 4096 ∧ D0.length ≤ 4096 := by rw [← hS0, ← hD0]; exact jn_short13 J.out
  obtain ⟨E1, hE1⟩ : ∃ E, E = otE f c1 S0 D0 c3 sz3 dz3 := ⟨_, rfl⟩
  have HE1 : Hid (otE f c1 S0 D0 c3 sz3 dz3 = E1 ∧ E1 ≠ 0) := ⟨hE1.symm, by rw [hE1]; exact O _ _ hS0 hD0⟩
  clear hE1 O hS0 hD0
  obtain ⟨x11, x12, x3, x4, s64, T⟩ := w8
  have HI1 : Hid (IsC w.heap.size w sa1 sz1 sc1 ∧ IsC w.heap.size w da1 dz1 dc1 ∧ (∀ j, In64 (nth sz1 j)) ∧ ∀ j, In64 (nth dz1 j)) := ⟨x3, x4, s64, T⟩
  clear x3 x4 T s64
  obtain ⟨x21, x22, x3, x4, s64, T⟩ := w9
  have HI2 : Hid (IsC w.heap.size w sa2 sz2 sc2 ∧ IsC w.heap.size w da2 dz2 dc2 ∧ (∀ j, In64 (nth sz2 j)) ∧ ∀ j, In64 (nth dz2 j)) := ⟨x3, x4, s64, T⟩
  clear x3 x4 T s64
  obtain ⟨x31, x32, x3, x4, s64, T⟩ := w10
  have HI3 : Hid (IsC w.heap.size w sa3 sz3 sc3 ∧ IsC w.heap.size w da3 dz3 dc3 ∧ (∀ j, In64 (nth sz3 j)) ∧ ∀ j, In64 (nth dz3 j)) := ⟨x3, x4, s64, T⟩
  clear x3 x4 T s64
  have n1 := Abx.new w (.bool c1) (.slice sa1 sz1.length sc1) (.slice da1 dz1.length dc1)
  have n2 := Abx.new (w.alloc (.cells #[.bool c1, .slice sa1 sz1.length sc1, .slice da1 dz1.length dc1] 24)) (.bool c2) (.slice sa2 sz2.length sc2) (.slice da2 dz2.length dc2)
  simp only [World.size_alloc] at n2
  have n3 := Abx.new ((w.alloc (.cells #[.bool c1, .slice sa1 sz1.length sc1, .slice da1 dz1.length dc1] 24)).alloc (.cells #[.bool c2, .slice sa2 sz2.length sc2, .slice da2 dz2.length dc2] 24)) (.bool c3) (.slice sa3 sz3.length sc3) (.slice da3 dz3.length dc3)
  simp only [World.size_alloc] at n3
  have n4 := lit_mid (((w.alloc (.cells #[.bool c1, .slice sa1 sz1.length sc1, .slice da1 dz1.length dc1] 24)).alloc (.cells #[.bool c2, .slice sa2 sz2.length sc2, .slice da2 dz2.length dc2] 24)).alloc (.cells #[.bool c3, .slice sa3 sz3.length sc3, .slice da3 dz3.length dc3] 24)) 3 [5, 7] 2 rfl
  simp only [World.size_alloc, List.map_cons, List.map_nil] at n4
  go_enter Try.func4, Try.ntmps4
  go_wp2_with fail
  obtain ⟨wo5, hwo5⟩ : ∃ wo5, wo5 = ((((w.alloc (.cells #[.bool c1, .slice sa1 sz1.length sc1, .slice da1 dz1.length dc1] 24)).alloc (.cells #[.bool c2, .slice sa2 sz2.length sc2, .slice da2 dz2.length dc2] 24)).alloc (.cells #[.bool c3, .slice sa3 sz3.length sc3, .slice da3 dz3.length dc3] 24)).alloc (.cells #[.int .i64 5, .int .i64 7] 3)) := ⟨_, rfl⟩
  rw [← hwo5]
  have z6 : w.heap.size + 1 + 1 + 1 + 1 ≤ wo5.heap.size := by rw [hwo5]; simp only [World.size_alloc]; omega
  have B7 : Hid (Abx wo5 (w.heap.size) (.bool c1) (.slice sa1 sz1.length sc1) (.slice da1 dz1.length dc1)) := by rw [hwo5]; exact (((n1.al (.cells #[.bool c2, .slice sa2 sz2.length sc2, .slice da2 dz2.length dc2] 24)).al (.cells #[.bool c3, .slice sa3 sz3.length sc3, .slice da3 dz3.length dc3] 24)).al (.cells #[.int .i64 5, .int .i64 7] 3))
  have B8 : Hid (Abx wo5 (w.heap.size + 1) (.bool c2) (.slice sa2 sz2.length sc2) (.slice da2 dz2.length dc2)) := by rw [hwo5]; exact ((n2.al (.cells #[.bool c3, .slice sa3 sz3.length sc3, .slice da3 dz3.length dc3] 24)).al (.cells #[.int .i64 5, .int .i64 7] 3))
  have B9 : Hid (Abx wo5 (w.heap.size + 1 + 1) (.bool c3) (.slice sa3 sz3.length sc3) (.slice da3 dz3.length dc3)) := by rw [hwo5]; exact (n3.al (.cells #[.int .i64 5, .int .i64 7] 3))
  have L10 : Hid (MidC (w.heap.size + 1 + 1 + 1) (w.heap.size + 1 + 1 + 1 + 1) wo5 (some ⟨w.heap.size + 1 + 1 + 1, 0, none⟩) ([5, 7]) (2)) := by rw [hwo5]; exact n4
  have hb11 : Hid (Below w.heap.size w wo5) := by rw [hwo5]; exact (((((Below.refl w.heap.size w).alloc (by omega) (.cells #[.bool c1, .slice sa1 sz1.length sc1, .slice da1 dz1.length dc1] 24)).alloc (by simp only [World.size_alloc]; omega) (.cells #[.bool c2, .slice sa2 sz2.length sc2, .slice da2 dz2.length dc2] 24)).alloc (by simp only [World.size_alloc]; omega) (.cells #[.bool c3, .slice sa3 sz3.length sc3, .slice da3 dz3.length dc3] 24)).alloc (by simp only [World.size_alloc]; omega) (.cells #[.int .i64 5, .int .i64 7] 3))
  have zwo5 : w.heap.size ≤ wo5.heap.size := hb11.out.size
  clear hwo5 n1 n2 n3 n4
  refine (vec_c (some ⟨w.heap.size + 1 + 1 + 1, 0, none⟩) 2 [5, 7] (by simp) _ (L10.out.is (by omega)).1).mono ?_
  rintro e v1 ⟨vap, vcp, gap, gcp, rfl, hVp, hGp, hB⟩
  have z12 : wo5.heap.size ≤ v1.heap.size := hB.size
  have B13 : Hid (Abx v1 (w.heap.size) (.bool c1) (.slice sa1 sz1.length sc1) (.slice da1 dz1.length dc1)) := B7.out.go hB
  have B14 : Hid (Abx v1 (w.heap.size + 1) (.bool c2) (.slice sa2 sz2.length sc2) (.slice da2 dz2.length dc2)) := B8.out.go hB
  have B15 : Hid (Abx v1 (w.heap.size + 1 + 1) (.bool c3) (.slice sa3 sz3.length sc3) (.slice da3 dz3.length dc3)) := B9.out.go hB
  have L16 : Hid (MidC (w.heap.size + 1 + 1 + 1) (w.heap.size + 1 + 1 + 1 + 1) v1 (some ⟨w.heap.size + 1 + 1 + 1, 0, none⟩) ([5, 7]) (2)) := L10.out.go (by omega) hB
  have hb17 : Hid (Below w.heap.size w v1) := hb11.out.trans (hB.mono hb11.out.size)
  have L18 : Hid (MidC (wo5.heap.size) (v1.heap.size) v1 (vap) ([(2 : Int)]) (vcp)) := hVp.midc
  have L19 : Hid (MidC (wo5.heap.size) (v1.heap.size) v1 (gap) ([5, 7]) (gcp)) := hGp.midc
  clear hB hb11 B7 B8 B9 L10 hVp hGp
  clear L16
  have n20 := lit_mid v1 3 [1, 2] 2 rfl
  simp only [List.map_cons, List.map_nil] at n20
  go_wp2_with fail
  obtain ⟨wo21, hwo21⟩ : ∃ wo21, wo21 = (v1.alloc (.cells #[.int .i64 1, .int .i64 2] 3)) := ⟨_, rfl⟩
  rw [← hwo21]
  have z22 : v1.heap.size + 1 ≤ wo21.heap.size := by rw [hwo21]; simp only [World.size_alloc]; omega
  have B23 : Hid (Abx wo21 (w.heap.size) (.bool c1) (.slice sa1 sz1.length sc1) (.slice da1 dz1.length dc1)) := by rw [hwo21]; exact (B13.out.al (.cells #[.int .i64 1, .int .i64 2] 3))
  have B24 : Hid (Abx wo21 (w.heap.size + 1) (.bool c2) (.slice sa2 sz2.length sc2) (.slice da2 dz2.length dc2)) := by rw [hwo21]; exact (B14.out.al (.cells #[.int .i64 1, .int .i64 2] 3))
  have B25 : Hid (Abx wo21 (w.heap.size + 1 + 1) (.bool c3) (.slice sa3 sz3.length sc3) (.slice da3 dz3.length dc3)) := by rw [hwo21]; exact (B15.out.al (.cells #[.int .i64 1, .int .i64 2] 3))
  have L26 : Hid (MidC (wo5.heap.size) (v1.heap.size) wo21 (vap) ([(2 : Int)]) (vcp)) := by rw [hwo21]; exact (L18.out.al (by omega) (.cells #[.int .i64 1, .int .i64 2] 3))
  have L27 : Hid (MidC (wo5.heap.size) (v1.heap.size) wo21 (gap) ([5, 7]) (gcp)) := by rw [hwo21]; exact (L19.out.al (by omega) (.cells #[.int .i64 1, .int .i64 2] 3))
  have L28 : Hid (MidC (v1.heap.size) (v1.heap.size + 1) wo21 (some ⟨v1.heap.size, 0, none⟩) ([1, 2]) (2)) := by rw [hwo21]; exact n20
  have hb29 : Hid (Below w.heap.size w wo21) := by rw [hwo21]; exact (hb17.out.alloc (by omega) (.cells #[.int .i64 1, .int .i64 2] 3))
  have zwo21 : w.heap.size ≤ wo21.heap.size := hb29.out.size
  clear hwo21 n20 hb17 B13 B14 B15 L18 L19
  refine (vec_c (some ⟨v1.heap.size, 0, none⟩) 2 [1, 2] (by simp) _ (L28.out.is (by omega)).1).mono ?_
  rintro e v2 ⟨vaq, vcq, gaq, gcq, rfl, hVq, hGq, hB⟩
  have z30 : wo21.heap.size ≤ v2.heap.size := hB.size
  have B31 : Hid (Abx v2 (w.heap.size) (.bool c1) (.slice sa1 sz1.length sc1) (.slice da1 dz1.length dc1)) := B23.out.go hB
  have B32 : Hid (Abx v2 (w.heap.size + 1) (.bool c2) (.slice sa2 sz2.length sc2) (.slice da2 dz2.length dc2)) := B24.out.go hB
  have B33 : Hid (Abx v2 (w.heap.size + 1 + 1) (.bool c3) (.slice sa3 sz3.length sc3) (.slice da3 dz3.length dc3)) := B25.out.go hB
  have L34 : Hid (MidC (wo5.heap.size) (v1.heap.size) v2 (vap) ([(2 : Int)]) (vcp)) := L26.out.go (by omega) hB
  have L35 : Hid (MidC (wo5.heap.size) (v1.heap.size) v2 (gap) ([5, 7]) (gcp)) := L27.out.go (by omega) hB
  have L36 : Hid (MidC (v1.heap.size) (v1.heap.size + 1) v2 (some ⟨v1.heap.size, 0, none⟩) ([1, 2]) (2)) := L28.out.go (by omega) hB
  have hb37 : Hid (Below w.heap.size w v2) := hb29.out.trans (hB.mono hb29.out.size)
  have L38 : Hid (MidC (wo21.heap.size) (v2.heap.size) v2 (vaq) ([(2 : Int)]) (vcq)) := hVq.midc
  have L39 : Hid (MidC (wo21.heap.size) (v2.heap.size) v2 (gaq) ([1, 2]) (gcq)) := hGq.midc
  clear hB hb29 B23 B24 B25 L26 L27 L28 hVq hGq
  clear L36
  go_wp2_with fail
  refine (otw_ok 2 false vap vcp [(2 : Int)] 1 rfl gap gcp [5, 7] 2 rfl false vaq vcq [(2 : Int)] 1 rfl gaq gcq [1, 2] 2 rfl _ (by unfold In64; decide) (by decide) (by decide) (L34.out.is (by omega)).1 (L35.out.is (by omega)).1 (lit12 (by decide)) (by decide) (by decide) (L38.out.is (by omega)).1 (L39.out.is (by omega)).1 (lit12 (by decide)) [2, 2] [4, 3, 6, 5] HOt (by show otE 2 false [2] [5, 7] false [2] [1, 2] = 0 ∧ [(2 : Int)] ++ [2] = [2, 2] ∧ otD 2 false [2] [5, 7] false [2] [1, 2] = [4, 3, 6, 5]; decide +kernel)).mono ?_
  rintro e v3 ⟨f1, g1, f2, g2, rfl, hX0, hY0, hB⟩
  have z40 : v2.heap.size ≤ v3.heap.size := hB.size
  have B41 : Hid (Abx v3 (w.heap.size) (.bool c1) (.slice sa1 sz1.length sc1) (.slice da1 dz1.length dc1)) := B31.out.go hB
  have B42 : Hid (Abx v3 (w.heap.size + 1) (.bool c2) (.slice sa2 sz2.length sc2) (.slice da2 dz2.length dc2)) := B32.out.go hB
  have B43 : Hid (Abx v3 (w.heap.size + 1 + 1) (.bool c3) (.slice sa3 sz3.length sc3) (.slice da3 dz3.length dc3)) := B33.out.go hB
  have L44 : Hid (MidC (wo5.heap.size) (v1.heap.size) v3 (vap) ([(2 : Int)]) (vcp)) := L34.out.go (by omega) hB
  have L45 : Hid (MidC (wo5.heap.size) (v1.heap.size) v3 (gap) ([5, 7]) (gcp)) := L35.out.go (by omega) hB
  have L46 : Hid (MidC (wo21.heap.size) (v2.heap.size) v3 (vaq) ([(2 : Int)]) (vcq)) := L38.out.go (by omega) hB
  have L47 : Hid (MidC (wo21.heap.size) (v2.heap.size) v3 (gaq) ([1, 2]) (gcq)) := L39.out.go (by omega) hB
  have hb48 : Hid (Below w.heap.size w v3) := hb37.out.trans (hB.mono hb37.out.size)
  have L49 : Hid (MidC (v2.heap.size) (v3.heap.size) v3 (f1) ([2, 2]) (g1)) := hX0.midc
  have L50 : Hid (MidC (v2.heap.size) (v3.heap.size) v3 (f2) ([4, 3, 6, 5]) (g2)) := hY0.midc
  clear hB hb37 B31 B32 B33 L34 L35 L38 L39 hX0 hY0
  clear L44 L45 L46 L47
  have n51 := Abx.new v3 (.bool false) (.slice f1 2 g1) (.slice f2 4 g2)
  have l52 := (n51).c0
  have l53 := (n51).c1
  have l54 := (n51).c2
  have n55 := lit_mid (v3.alloc (.cells #[.bool false, .slice f1 2 g1, .slice f2 4 g2] 24)) 3 [4, 3, 6, 5] 4 rfl
  simp only [World.size_alloc, List.map_cons, List.map_nil] at n55
  go_wp2_with fail
  obtain ⟨wo56, hwo56⟩ : ∃ wo56, wo56 = ((v3.alloc (.cells #[.bool false, .slice f1 2 g1, .slice f2 4 g2] 24)).alloc (.cells #[.int .i64 4, .int .i64 3, .int .i64 6, .int .i64 5] 3)) := ⟨_, rfl⟩
  rw [← hwo56]
  have z57 : v3.heap.size + 1 + 1 ≤ wo56.heap.size := by rw [hwo56]; simp only [World.size_alloc]; omega
  have B58 : Hid (Abx wo56 (w.heap.size) (.bool c1) (.slice sa1 sz1.length sc1) (.slice da1 dz1.length dc1)) := by rw [hwo56]; exact ((B41.out.al (.cells #[.bool false, .slice f1 2 g1, .slice f2 4 g2] 24)).al (.cells #[.int .i64 4, .int .i64 3, .int .i64 6, .int .i64 5] 3))
  have B59 : Hid (Abx wo56 (w.heap.size + 1) (.bool c2) (.slice sa2 sz2.length sc2) (.slice da2 dz2.length dc2)) := by rw [hwo56]; exact ((B42.out.al (.cells #[.bool false, .slice f1 2 g1, .slice f2 4 g2] 24)).al (.cells #[.int .i64 4, .int .i64 3, .int .i64 6, .int .i64 5] 3))
  have B60 : Hid (Abx wo56 (w.heap.size + 1 + 1) (.bool c3) (.slice sa3 sz3.length sc3) (.slice da3 dz3.length dc3)) := by rw [hwo56]; exact ((B43.out.al (.cells #[.bool false, .slice f1 2 g1, .slice f2 4 g2] 24)).al (.cells #[.int .i64 4, .int .i64 3, .int .i64 6, .int .i64 5] 3))
  have B61 : Hid (Abx wo56 (v3.heap.size) (.bool false) (.slice f1 2 g1) (.slice f2 4 g2)) := by rw [hwo56]; exact (n51.al (.cells #[.int .i64 4, .int .i64 3, .int .i64 6, .int .i64 5] 3))
  have L62 : Hid (MidC (v2.heap.size) (v3.heap.size) wo56 (f1) ([2, 2]) (g1)) := by rw [hwo56]; exact ((L49.out.al (by omega) (.cells #[.bool false, .slice f1 2 g1, .slice f2 4 g2] 24)).al (by simp only [World.size_alloc]; omega) (.cells #[.int .i64 4, .int .i64 3, .int .i64 6, .int .i64 5] 3))
  have L63 : Hid (MidC (v2.heap.size) (v3.heap.size) wo56 (f2) ([4, 3, 6, 5]) (g2)) := by rw [hwo56]; exact ((L50.out.al (by omega) (.cells #[.bool false, .slice f1 2 g1, .slice f2 4 g2] 24)).al (by simp only [World.size_alloc]; omega) (.cells #[.int .i64 4, .int .i64 3, .int .i64 6, .int .i64 5] 3))
  have L64 : Hid (MidC (v3.heap.size + 1) (v3.heap.size + 1 + 1) wo56 (some ⟨v3.heap.size + 1, 0, none⟩) ([4, 3, 6, 5]) (4)) := by rw [hwo56]; exact n55
  have hb65 : Hid (Below w.heap.size w wo56) := by rw [hwo56]; exact ((hb48.out.alloc (by omega) (.cells #[.bool false, .slice f1 2 g1, .slice f2 4 g2] 24)).alloc (by simp only [World.size_alloc]; omega) (.cells #[.int .i64 4, .int .i64 3, .int .i64 6, .int .i64 5] 3))
  have zwo56 : w.heap.size ≤ wo56.heap.size := hb65.out.size
  clear hwo56 n51 l52 l53 l54 n55 hb48 B41 B42 B43 L49 L50
  refine (ints_any f2 g2 [4, 3, 6, 5] (some ⟨v3.heap.size + 1, 0, none⟩) 4 [4, 3, 6, 5] (by simp) _ _ (L63.out.is (by omega)).1 (L64.out.is (by omega)).1).mono ?_
  rintro e v4 ⟨rfl, hB⟩
  have z66 : wo56.heap.size ≤ v4.heap.size := hB.size
  have B67 : Hid (Abx v4 (w.heap.size) (.bool c1) (.slice sa1 sz1.length sc1) (.slice da1 dz1.length dc1)) := B58.out.go hB
  have B68 : Hid (Abx v4 (w.heap.size + 1) (.bool c2) (.slice sa2 sz2.length sc2) (.slice da2 dz2.length dc2)) := B59.out.go hB
  have B69 : Hid (Abx v4 (w.heap.size + 1 + 1) (.bool c3) (.slice sa3 sz3.length sc3) (.slice da3 dz3.length dc3)) := B60.out.go hB
  have B70 : Hid (Abx v4 (v3.heap.size) (.bool false) (.slice f1 2 g1) (.slice f2 4 g2)) := B61.out.go hB
  have L71 : Hid (MidC (v2.heap.size) (v3.heap.size) v4 (f1) ([2, 2]) (g1)) := L62.out.go (by omega) hB
  have L72 : Hid (MidC (v2.heap.size) (v3.heap.size) v4 (f2) ([4, 3, 6, 5]) (g2)) := L63.out.go (by omega) hB
  have L73 : Hid (MidC (v3.heap.size + 1) (v3.heap.size + 1 + 1) v4 (some ⟨v3.heap.size + 1, 0, none⟩) ([4, 3, 6, 5]) (4)) := L64.out.go (by omega) hB
  have hb74 : Hid (Below w.heap.size w v4) := hb65.out.trans (hB.mono hb65.out.size)
  clear hB hb65 B58 B59 B60 B61 L62 L63 L64
  rw [eqB_true rfl]
  clear L71 L72 L73 B70
  have l75 := (B67.out).c0
  have l76 := (B67.out).c1
  have l77 := (B67.out).c2
  have l78 := (B68.out).c0
  have l79 := (B68.out).c1
  have l80 := (B68.out).c2
  go_wp2_with fail
  clear l75 l76 l77 l78 l79 l80
  refine (jn_ok 0 (by unfold In64; decide) c1 sa1 sc1 sz1 da1 dc1 dz1 c2 sa2 sc2 sz2 da2 dc2 dz2 _ x11 x12 ((HI1.out.1.below hb74.out).mono hb74.out.size) ((HI1.out.2.1.below hb74.out).mono hb74.out.size) HI1.out.2.2.2 x21 x22 ((HI2.out.1.below hb74.out).mono hb74.out.size) ((HI2.out.2.1.below hb74.out).mono hb74.out.size) HI2.out.2.2.2 S0 D0 HJn HJ.out).mono ?_
  rintro e v5 ⟨xa1, xc1, ya1, yc1, rfl, hX1, hY1, hB⟩
  have z81 : v4.heap.size ≤ v5.heap.size := hB.size
  have B82 : Hid (Abx v5 (w.heap.size) (.bool c1) (.slice sa1 sz1.length sc1) (.slice da1 dz1.length dc1)) := B67.out.go hB
  have B83 : Hid (Abx v5 (w.heap.size + 1) (.bool c2) (.slice sa2 sz2.length sc2) (.slice da2 dz2.length dc2)) := B68.out.go hB
  have B84 : Hid (Abx v5 (w.heap.size + 1 + 1) (.bool c3) (.slice sa3 sz3.length sc3) (.slice da3 dz3.length dc3)) := B69.out.go hB
  have hb85 : Hid (Below w.heap.size w v5) := hb74.out.trans (hB.mono hb74.out.size)
  have L86 : Hid (MidC (v4.heap.size) (v5.heap.size) v5 (xa1) (S0) (xc1)) := hX1.midc
  have L87 : Hid (MidC (v4.heap.size) (v5.heap.size) v5 (ya1) (D0) (yc1)) := hY1.midc
  clear hB hb74 B67 B68 B69 hX1 hY1
  have n88 := Abx.new v5 (.bool c1) (.slice xa1 S0.length xc1) (.slice ya1 D0.length yc1)
  have l89 := (n88).c0
  have l90 := (n88).c1
  have l91 := (n88).c2
  have l92 := ((B84.out.al (.cells #[.bool c1, .slice xa1 S0.length xc1, .slice ya1 D0.length yc1] 24))).c0
  have l93 := ((B84.out.al (.cells #[.bool c1, .slice xa1 S0.length xc1, .slice ya1 D0.length yc1] 24))).c1
  have l94 := ((B84.out.al (.cells #[.bool c1, .slice xa1 S0.length xc1, .slice ya1 D0.length yc1] 24))).c2
  go_wp2_with fail
  obtain ⟨wo95, hwo95⟩ : ∃ wo95, wo95 = (v5.alloc (.cells #[.bool c1, .slice xa1 S0.length xc1, .slice ya1 D0.length yc1] 24)) := ⟨_, rfl⟩
  rw [← hwo95]
  have z96 : v5.heap.size + 1 ≤ wo95.heap.size := by rw [hwo95]; simp only [World.size_alloc]; omega
  have B97 : Hid (Abx wo95 (w.heap.size) (.bool c1) (.slice sa1 sz1.length sc1) (.slice da1 dz1.length dc1)) := by rw [hwo95]; exact (B82.out.al (.cells #[.bool c1, .slice xa1 S0.length xc1, .slice ya1 D0.length yc1] 24))
  have B98 : Hid (Abx wo95 (w.heap.size + 1) (.bool c2) (.slice sa2 sz2.length sc2) (.slice da2 dz2.length dc2)) := by rw [hwo95]; exact (B83.out.al (.cells #[.bool c1, .slice xa1 S0.length xc1, .slice ya1 D0.length yc1] 24))
  have B99 : Hid (Abx wo95 (w.heap.size + 1 + 1) (.bool c3) (.slice sa3 sz3.length sc3) (.slice da3 dz3.length dc3)) := by rw [hwo95]; exact (B84.out.al (.cells #[.bool c1, .slice xa1 S0.length xc1, .slice ya1 D0.length yc1] 24))
  have B100 : Hid (Abx wo95 (v5.heap.size) (.bool c1) (.slice xa1 S0.length xc1) (.slice ya1 D0.length yc1)) := by rw [hwo95]; exact n88
  have L101 : Hid (MidC (v4.heap.size) (v5.heap.size) wo95 (xa1) (S0) (xc1)) := by rw [hwo95]; exact (L86.out.al (by omega) (.cells #[.bool c1, .slice xa1 S0.length xc1, .slice ya1 D0.length yc1] 24))
  have L102 : Hid (MidC (v4.heap.size) (v5.heap.size) wo95 (ya1) (D0) (yc1)) := by rw [hwo95]; exact (L87.out.al (by omega) (.cells #[.bool c1, .slice xa1 S0.length xc1, .slice ya1 D0.length yc1] 24))
  have hb103 : Hid (Below w.heap.size w wo95) := by rw [hwo95]; exact (hb85.out.alloc (by omega) (.cells #[.bool c1, .slice xa1 S0.length xc1, .slice ya1 D0.length yc1] 24))
  have zwo95 : w.heap.size ≤ wo95.heap.size := hb103.out.size
  clear hwo95 n88 l89 l90 l91 l92 l93 l94 hb85 B82 B83 B84 L86 L87
  refine (otw_no f c1 xa1 xc1 S0 S0.length rfl ya1 yc1 D0 D0.length rfl c3 sa3 sc3 sz3 sz3.length rfl da3 dc3 dz3 dz3.length rfl _ hf (by omega) (by omega) (L101.out.is (by omega)).1 (L102.out.is (by omega)).1 HJT.out x31 x32 ((HI3.out.1.1.below hb103.out).mono hb103.out.size) ((HI3.out.2.1.1.below hb103.out).mono hb103.out.size) HI3.out.2.2.2 HOt E1 HE1.out).mono ?_
  rintro e v6 ⟨xa2, xc2, ya2, yc2, rfl, hB⟩
  have z104 : wo95.heap.size ≤ v6.heap.size := hB.size
  have B105 : Hid (Abx v6 (w.heap.size) (.bool c1) (.slice sa1 sz1.length sc1) (.slice da1 dz1.length dc1)) := B97.out.go hB
  have B106 : Hid (Abx v6 (w.heap.size + 1) (.bool c2) (.slice sa2 sz2.length sc2) (.slice da2 dz2.length dc2)) := B98.out.go hB
  have B107 : Hid (Abx v6 (w.heap.size + 1 + 1) (.bool c3) (.slice sa3 sz3.length sc3) (.slice da3 dz3.length dc3)) := B99.out.go hB
  have B108 : Hid (Abx v6 (v5.heap.size) (.bool c1) (.slice xa1 S0.length xc1) (.slice ya1 D0.length yc1)) := B100.out.go hB
  have L109 : Hid (MidC (v4.heap.size) (v5.heap.size) v6 (xa1) (S0) (xc1)) := L101.out.go (by omega) hB
  have L110 : Hid (MidC (v4.heap.size) (v5.heap.size) v6 (ya1) (D0) (yc1)) := L102.out.go (by omega) hB
  have hb111 : Hid (Below w.heap.size w v6) := hb103.out.trans (hB.mono hb103.out.size)
  clear hB hb103 B97 B98 B99 B100 L101 L102
  clear L109 L110
  have n112 := Abx.new v6 (.bool false) (.slice xa2 0 xc2) (.slice ya2 0 yc2)
  go_wp2_with fail
  obtain ⟨wo113, hwo113⟩ : ∃ wo113, wo113 = (v6.alloc (.cells #[.bool false, .slice xa2 0 xc2, .slice ya2 0 yc2] 24)) := ⟨_, rfl⟩
  rw [← hwo113]
  have z114 : v6.heap.size + 1 ≤ wo113.heap.size := by rw [hwo113]; simp only [World.size_alloc]; omega
  have B115 : Hid (Abx wo113 (w.heap.size) (.bool c1) (.slice sa1 sz1.length sc1) (.slice da1 dz1.length dc1)) := by rw [hwo113]; exact (B105.out.al (.cells #[.bool false, .slice xa2 0 xc2, .slice ya2 0 yc2] 24))
  have B116 : Hid (Abx wo113 (w.heap.size + 1) (.bool c2) (.slice sa2 sz2.length sc2) (.slice da2 dz2.length dc2)) := by rw [hwo113]; exact (B106.out.al (.cells #[.bool false, .slice xa2 0 xc2, .slice ya2 0 yc2] 24))
  have B117 : Hid (Abx wo113 (w.heap.size + 1 + 1) (.bool c3) (.slice sa3 sz3.length sc3) (.slice da3 dz3.length dc3)) := by rw [hwo113]; exact (B107.out.al (.cells #[.bool false, .slice xa2 0 xc2, .slice ya2 0 yc2] 24))
  have B118 : Hid (Abx wo113 (v5.heap.size) (.bool c1) (.slice xa1 S0.length xc1) (.slice ya1 D0.length yc1)) := by rw [hwo113]; exact (B108.out.al (.cells #[.bool false, .slice xa2 0 xc2, .slice ya2 0 yc2] 24))
  have B119 : Hid (Abx wo113 (v6.heap.size) (.bool false) (.slice xa2 0 xc2) (.slice ya2 0 yc2)) := by rw [hwo113]; exact n112
  have hb120 : Hid (Below w.heap.size w wo113) := by rw [hwo113]; exact (hb111.out.alloc (by omega) (.cells #[.bool false, .slice xa2 0 xc2, .slice ya2 0 yc2] 24))
  have zwo113 : w.heap.size ≤ wo113.heap.size := hb120.out.size
  clear hwo113 n112 hb111 B105 B106 B107 B108
  go_ret
  exact ⟨rfl, hb120.out⟩
set_option maxRecDepth 100000 in
set_option maxHeartbeats 8000000 in
theorem parts_c3 (HOt : COt) (HJn : CJn) (HRd : CRd) (H2 : C2d) (f : Int) (hf : In64 f) (c1 : Bool) (sa1 : Option Addr) (sc1 : Nat) (sz1 : List Int) (da1 : Option Addr) (dc1 : Nat) (dz1 : List Int) (c2 : Bool) (sa2 : Option Addr) (sc2 : Nat) (sz2 : List Int) (da2 : Option Addr) (dc2 : Nat) (dz2 : List Int) (c3 : Bool) (sa3 : Option Addr) (sc3 : Nat) (sz3 : List Int) (da3 : Option Addr) (dc3 : Nat) (dz3 : List Int) (w : World) (w8 : IsArrD w sa1 sz1 sc1 da1 dz1 dc1) (w9 : IsArrD w sa2 sz2 sc2 da2 dz2 dc2) (w10 : IsArrD w sa3 sz3 sc3 da3 dz3 dc3) (J : Hid (jnE 0 c1 sz1 dz1 c2 sz2 dz2 = 0)) (O : ∀ S0 D0, jnS (0 : Int).toNat sz1 sz2 = S0 → jnD (0 : Int).toNat sz1 dz1 sz2 dz2 = D0 → otE f c1 S0 D0 c3 sz3 dz3 = 0) (hc3 : c3 = true) :
    Calls Try.prog 4 #[.int .i64 f, .agg #[.bool c1, .slice sa1 sz1.length sc1, .slice da1 dz1.length dc1], .agg #[.bool c2, .slice sa2 sz2.length sc2, .slice da2 dz2.length dc2], .agg #[.bool c3, .slice sa3 sz3.length sc3, .slice da3 dz3.length dc3]] w fun e w' => e = .returned (.bool true) ∧ Below w.heap.size w w' := by
  subst hc3
  obtain ⟨S0, hS0⟩ : ∃ S0, jnS (0 : Int).toNat sz1 sz2 = S0 := ⟨_, rfl⟩
  obtain ⟨D0, hD0⟩ : ∃ D0, jnD (0 : Int).toNat sz1 dz1 sz2 dz2 = D0 := ⟨_, rfl⟩
  have HJ : Hid (jnE 0 c1 sz1 dz1 c2 sz2 dz2 = 0 ∧ jnS (0 : Int).toNat sz1 sz2 = S0 ∧ jnD (0 : Int).toNat sz1 dz1 sz2 dz2 = D0) := ⟨J.out, hS0, hD0⟩
  have HJT : Hid (∀ j, In64 (nth D0 j)) := by rw [← hD0]; exact jn_64 J.out w8.2.2.2.2.2 w9.2.2.2.2.2
  have LJ : S0.length ≤ 4096 ∧ D0.length ≤ 4096 := by rw [← hS0, ← hD0]; exact jn_short13 J.out
  obtain ⟨SY, DY, SP, DP, SQ, DQ, R1, R2, R3, R4, TT, L1, L2, L3⟩ := parts13 J.out hS0 hD0 (O _ _ hS0 hD0) w8.2.2.2.2.2 w9.2.2.2.2.2 w10.2.2.2.2.2
  have HR1 : Hid (_) := R1
  have HR2 : Hid (_) := R2
  have HR3 : Hid (_) := R3
  have HR4 : Hid (_) := R4
  have HTT : Hid (_) := TT
  clear R1 R2 R3 R4 TT O hS0 hD0
  obtain ⟨x11, x12, x3, x4, s64, T⟩ := w8
  have HI1 : Hid (IsC w.heap.size w sa1 sz1 sc1 ∧ IsC w.heap.size w da1 dz1 dc1 ∧ (∀ j, In64 (nth sz1 j)) ∧ ∀ j, In64 (nth dz1 j)) := ⟨x3, x4, s64, T⟩
  clear x3 x4 T s64
  obtain ⟨x21, x22, x3, x4, s64, T⟩ := w9
  have HI2 : Hid (IsC w.heap.size w sa2 sz2 sc2 ∧ IsC w.heap.size w da2 dz2 dc2 ∧ (∀ j, In64 (nth sz2 j)) ∧ ∀ j, In64 (nth dz2 j)) := ⟨x3, x4, s64, T⟩
  clear x3 x4 T s64
  obtain ⟨x31, x32, x3, x4, s64, T⟩ := w10
  have HI3 : Hid (IsC w.heap.size w sa3 sz3 sc3 ∧ IsC w.heap.size w da3 dz3 dc3 ∧ (∀ j, In64 (nth sz3 j)) ∧ ∀ j, In64 (nth dz3 j)) := ⟨x3, x4, s64, T⟩
  clear x3 x4 T s64
  have n1 := Abx.new w (.bool c1) (.slice sa1 sz1.length sc1) (.slice da1 dz1.length dc1)
  have n2 := Abx.new (w.alloc (.cells #[.bool c1, .slice sa1 sz1.length sc1, .slice da1 dz1.length dc1] 24)) (.bool c2) (.slice sa2 sz2.length sc2) (.slice da2 dz2.length dc2)
  simp only [World.size_alloc] at n2
  have n3 := Abx.new ((w.alloc (.cells #[.bool c1, .slice sa1 sz1.length sc1, .slice da1 dz1.length dc1] 24)).alloc (.cells #[.bool c2, .slice sa2 sz2.length sc2, .slice da2 dz2.length dc2] 24)) (.bool true) (.slice sa3 sz3.length sc3) (.slice da3 dz3.length dc3)
  simp only [World.size_alloc] at n3
  have n4 := lit_mid (((w.alloc (.cells #[.bool c1, .slice sa1 sz1.length sc1, .slice da1 dz1.length dc1] 24)).alloc (.cells #[.bool c2, .slice sa2 sz2.length sc2, .slice da2 dz2.length dc2] 24)).alloc (.cells #[.bool true, .slice sa3 sz3.length sc3, .slice da3 dz3.length dc3] 24)) 3 [5, 7] 2 rfl
  simp only [World.size_alloc, List.map_cons, List.map_nil] at n4
  go_enter Try.func4, Try.ntmps4
  go_wp2_with fail
  obtain ⟨wo5, hwo5⟩ : ∃ wo5, wo5 = ((((w.alloc (.cells #[.bool c1, .slice sa1 sz1.length sc1, .slice da1 dz1.length dc1] 24)).alloc (.cells #[.bool c2, .slice sa2 sz2.length sc2, .slice da2 dz2.length dc2] 24)).alloc (.cells #[.bool true, .slice sa3 sz3.length sc3, .slice da3 dz3.length dc3] 24)).alloc (.cells #[.int .i64 5, .int .i64 7] 3)) := ⟨_, rfl⟩
  rw [← hwo5]
  have z6 : w.heap.size + 1 + 1 + 1 + 1 ≤ wo5.heap.size := by rw [hwo5]; simp only [World.size_alloc]; omega
  have B7 : Hid (Abx wo5 (w.heap.size) (.bool c1) (.slice sa1 sz1.length sc1) (.slice da1 dz1.length dc1)) := by rw [hwo5]; exact (((n1.al (.cells #[.bool c2, .slice sa2 sz2.length sc2, .slice da2 dz2.length dc2] 24)).al (.cells #[.bool true, .slice sa3 sz3.length sc3, .slice da3 dz3.length dc3] 24)).al (.cells #[.int .i64 5, .int .i64 7] 3))
  have B8 : Hid (Abx wo5 (w.heap.size + 1) (.bool c2) (.slice sa2 sz2.length sc2) (.slice da2 dz2.length dc2)) := by rw [hwo5]; exact ((n2.al (.cells #[.bool true, .slice sa3 sz3.length sc3, .slice da3 dz3.length dc3] 24)).al (.cells #[.int .i64 5, .int .i64 7] 3))
  have B9 : Hid (Abx wo5 (w.heap.size + 1 + 1) (.bool true) (.slice sa3 sz3.length sc3) (.slice da3 dz3.length dc3)) := by rw [hwo5]; exact (n3.al (.cells #[.int .i64 5, .int .i64 7] 3))
  have L10 : Hid (MidC (w.heap.size + 1 + 1 + 1) (w.heap.size + 1 + 1 + 1 + 1) wo5 (some ⟨w.heap.size + 1 + 1 + 1, 0, none⟩) ([5, 7]) (2)) := by rw [hwo5]; exact n4
  have hb11 : Hid (Below w.heap.size w wo5) := by rw [hwo5]; exact (((((Below.refl w.heap.size w).alloc (by omega) (.cells #[.bool c1, .slice sa1 sz1.length sc1, .slice da1 dz1.length dc1] 24)).alloc (by simp only [World.size_alloc]; omega) (.cells #[.bool c2, .slice sa2 sz2.length sc2, .slice da2 dz2.length dc2] 24)).alloc (by simp only [World.size_alloc]; omega) (.cells #[.bool true, .slice sa3 sz3.length sc3, .slice da3 dz3.length dc3] 24)).alloc (by simp only [World.size_alloc]; omega) (.cells #[.int .i64 5, .int .i64 7] 3))
  have zwo5 : w.heap.size ≤ wo5.heap.size := hb11.out.size
  clear hwo5 n1 n2 n3 n4
  refine (vec_c (some ⟨w.heap.size + 1 + 1 + 1, 0, none⟩) 2 [5, 7] (by simp) _ (L10.out.is (by omega)).1).mono ?_
  rintro e v1 ⟨vap, vcp, gap, gcp, rfl, hVp, hGp, hB⟩
  have z12 : wo5.heap.size ≤ v1.heap.size := hB.size
  have B13 : Hid (Abx v1 (w.heap.size) (.bool c1) (.slice sa1 sz1.length sc1) (.slice da1 dz1.length dc1)) := B7.out.go hB
  have B14 : Hid (Abx v1 (w.heap.size + 1) (.bool c2) (.slice sa2 sz2.length sc2) (.slice da2 dz2.length dc2)) := B8.out.go hB
  have B15 : Hid (Abx v1 (w.heap.size + 1 + 1) (.bool true) (.slice sa3 sz3.length sc3) (.slice da3 dz3.length dc3)) := B9.out.go hB
  have L16 : Hid (MidC (w.heap.size + 1 + 1 + 1) (w.heap.size + 1 + 1 + 1 + 1) v1 (some ⟨w.heap.size + 1 + 1 + 1, 0, none⟩) ([5, 7]) (2)) := L10.out.go (by omega) hB
  have hb17 : Hid (Below w.heap.size w v1) := hb11.out.trans (hB.mono hb11.out.size)
  have L18 : Hid (MidC (wo5.heap.size) (v1.heap.size) v1 (vap) ([(2 : Int)]) (vcp)) := hVp.midc
  have L19 : Hid (MidC (wo5.heap.size) (v1.heap.size) v1 (gap) ([5, 7]) (gcp)) := hGp.midc
  clear hB hb11 B7 B8 B9 L10 hVp hGp
  clear L16
  have n20 := lit_mid v1 3 [1, 2] 2 rfl
  simp only [List.map_cons, List.map_nil] at n20
  go_wp2_with fail
  obtain ⟨wo21, hwo21⟩ : ∃ wo21, wo21 = (v1.alloc (.cells #[.int .i64 1, .int .i64 2] 3)) := ⟨_, rfl⟩
  rw [← hwo21]
  have z22 : v1.heap.size + 1 ≤ wo21.heap.size := by rw [hwo21]; simp only [World.size_alloc]; omega
  have B23 : Hid (Abx wo21 (w.heap.size) (.bool c1) (.slice sa1 sz1.length sc1) (.slice da1 dz1.length dc1)) := by rw [hwo21]; exact (B13.out.al (.cells #[.int .i64 1, .int .i64 2] 3))
  have B24 : Hid (Abx wo21 (w.heap.size + 1) (.bool c2) (.slice sa2 sz2.length sc2) (.slice da2 dz2.length dc2)) := by rw [hwo21]; exact (B14.out.al (.cells #[.int .i64 1, .int .i64 2] 3))
  have B25 : Hid (Abx wo21 (w.heap.size + 1 + 1) (.bool true) (.slice sa3 sz3.length sc3) (.slice da3 dz3.length dc3)) := by rw [hwo21]; exact (B15.out.al (.cells #[.int .i64 1, .int .i64 2] 3))
  have L26 : Hid (MidC (wo5.heap.size) (v1.heap.size) wo21 (vap) ([(2 : Int)]) (vcp)) := by rw [hwo21]; exact (L18.out.al (by omega) (.cells #[.int .i64 1, .int .i64 2] 3))
  have L27 : Hid (MidC (wo5.heap.size) (v1.heap.size) wo21 (gap) ([5, 7]) (gcp)) := by rw [hwo21]; exact (L19.out.al (by omega) (.cells #[.int .i64 1, .int .i64 2] 3))
  have L28 : Hid (MidC (v1.heap.size) (v1.heap.size + 1) wo21 (some ⟨v1.heap.size, 0, none⟩) ([1, 2]) (2)) := by rw [hwo21]; exact n20
  have hb29 : Hid (Below w.heap.size w wo21) := by rw [hwo21]; exact (hb17.out.alloc (by omega) (.cells #[.int .i64 1, .int .i64 2] 3))
  have zwo21 : w.heap.size ≤ wo21.heap.size := hb29.out.size
  clear hwo21 n20 hb17 B13 B14 B15 L18 L19
  refine (vec_c (some ⟨v1.heap.size, 0, none⟩) 2 [1, 2] (by simp) _ (L28.out.is (by omega)).1).mono ?_
  rintro e v2 ⟨vaq, vcq, gaq, gcq, rfl, hVq, hGq, hB⟩
  have z30 : wo21.heap.size ≤ v2.heap.size := hB.size
  have B31 : Hid (Abx v2 (w.heap.size) (.bool c1) (.slice sa1 sz1.length sc1) (.slice da1 dz1.length dc1)) := B23.out.go hB
  have B32 : Hid (Abx v2 (w.heap.size + 1) (.bool c2) (.slice sa2 sz2.length sc2) (.slice da2 dz2.length dc2)) := B24.out.go hB
  have B33 : Hid (Abx v2 (w.heap.size + 1 + 1) (.bool true) (.slice sa3 sz3.length sc3) (.slice da3 dz3.length dc3)) := B25.out.go hB
  have L34 : Hid (MidC (wo5.heap.size) (v1.heap.size) v2 (vap) ([(2 : Int)]) (vcp)) := L26.out.go (by omega) hB
  have L35 : Hid (MidC (wo5.heap.size) (v1.heap.size) v2 (gap) ([5, 7]) (gcp)) := L27.out.go (by omega) hB
  have L36 : Hid (MidC (v1.heap.size) (v1.heap.size + 1) v2 (some ⟨v1.heap.size, 0, none⟩) ([1, 2]) (2)) := L28.out.go (by omega) hB
  have hb37 : Hid (Below w.heap.size w v2) := hb29.out.trans (hB.mono hb29.out.size)
  have L38 : Hid (MidC (wo21.heap.size) (v2.heap.size) v2 (vaq) ([(2 : Int)]) (vcq)) := hVq.midc
  have L39 : Hid (MidC (wo21.heap.size) (v2.heap.size) v2 (gaq) ([1, 2]) (gcq)) := hGq.midc
  clear hB hb29 B23 B24 B25 L26 L27 L28 hVq hGq
  clear L36
  go_wp2_with fail
  refine (otw_ok 2 false vap vcp [(2 : Int)] 1 rfl gap gcp [5, 7] 2 rfl false vaq vcq [(2 : Int)] 1 rfl gaq gcq [1, 2] 2 rfl _ (by unfold In64; decide) (by decide) (by decide) (L34.out.is (by omega)).1 (L35.out.is (by omega)).1 (lit12 (by decide)) (by decide) (by decide) (L38.out.is (by omega)).1 (L39.out.is (by omega)).1 (lit12 (by decide)) [2, 2] [4, 3, 6, 5] HOt (by show otE 2 false [2] [5, 7] false [2] [1, 2] = 0 ∧ [(2 : Int)] ++ [2] = [2, 2] ∧ otD 2 false [2] [5, 7] false [2] [1, 2] = [4, 3, 6, 5]; decide +kernel)).mono ?_
  rintro e v3 ⟨f1, g1, f2, g2, rfl, hX0, hY0, hB⟩
  have z40 : v2.heap.size ≤ v3.heap.size := hB.size
  have B41 : Hid (Abx v3 (w.heap.size) (.bool c1) (.slice sa1 sz1.length sc1) (.slice da1 dz1.length dc1)) := B31.out.go hB
  have B42 : Hid (Abx v3 (w.heap.size + 1) (.bool c2) (.slice sa2 sz2.length sc2) (.slice da2 dz2.length dc2)) := B32.out.go hB
  have B43 : Hid (Abx v3 (w.heap.size + 1 + 1) (.bool true) (.slice sa3 sz3.length sc3) (.slice da3 dz3.length dc3)) := B33.out.go hB
  have L44 : Hid (MidC (wo5.heap.size) (v1.heap.size) v3 (vap) ([(2 : Int)]) (vcp)) := L34.out.go (by omega) hB
  have L45 : Hid (MidC (wo5.heap.size) (v1.heap.size) v3 (gap) ([5, 7]) (gcp)) := L35.out.go (by omega) hB
  have L46 : Hid (MidC (wo21.heap.size) (v2.heap.size) v3 (vaq) ([(2 : Int)]) (vcq)) := L38.out.go (by omega) hB
  have L47 : Hid (MidC (wo21.heap.size) (v2.heap.size) v3 (gaq) ([1, 2]) (gcq)) := L39.out.go (by omega) hB
  have hb48 : Hid (Below w.heap.size w v3) := hb37.out.trans (hB.mono hb37.out.size)
  have L49 : Hid (MidC (v2.heap.size) (v3.heap.size) v3 (f1) ([2, 2]) (g1)) := hX0.midc
  have L50 : Hid (MidC (v2.heap.size) (v3.heap.size) v3 (f2) ([4, 3, 6, 5]) (g2)) := hY0.midc
  clear hB hb37 B31 B32 B33 L34 L35 L38 L39 hX0 hY0
  clear L44 L45 L46 L47
  have n51 := Abx.new v3 (.bool false) (.slice f1 2 g1) (.slice f2 4 g2)
  have l52 := (n51).c0
  have l53 := (n51).c1
  have l54 := (n51).c2
  have n55 := lit_mid (v3.alloc (.cells #[.bool false, .slice f1 2 g1, .slice f2 4 g2] 24)) 3 [4, 3, 6, 5] 4 rfl
  simp only [World.size_alloc, List.map_cons, List.map_nil] at n55
  go_wp2_with fail
  obtain ⟨wo56, hwo56⟩ : ∃ wo56, wo56 = ((v3.alloc (.cells #[.bool false, .slice f1 2 g1, .slice f2 4 g2] 24)).alloc (.cells #[.int .i64 4, .int .i64 3, .int .i64 6, .int .i64 5] 3)) := ⟨_, rfl⟩
  rw [← hwo56]
  have z57 : v3.heap.size + 1 + 1 ≤ wo56.heap.size := by rw [hwo56]; simp only [World.size_alloc]; omega
  have B58 : Hid (Abx wo56 (w.heap.size) (.bool c1) (.slice sa1 sz1.length sc1) (.slice da1 dz1.length dc1)) := by rw [hwo56]; exact ((B41.out.al (.cells #[.bool false, .slice f1 2 g1, .slice f2 4 g2] 24)).al (.cells #[.int .i64 4, .int .i64 3, .int .i64 6, .int .i64 5] 3))
  have B59 : Hid (Abx wo56 (w.heap.size + 1) (.bool c2) (.slice sa2 sz2.length sc2) (.slice da2 dz2.length dc2)) := by rw [hwo56]; exact ((B42.out.al (.cells #[.bool false, .slice f1 2 g1, .slice f2 4 g2] 24)).al (.cells #[.int .i64 4, .int .i64 3, .int .i64 6, .int .i64 5] 3))
  have B60 : Hid (Abx wo56 (w.heap.size + 1 + 1) (.bool true) (.slice sa3 sz3.length sc3) (.slice da3 dz3.length dc3)) := by rw [hwo56]; exact ((B43.out.al (.cells #[.bool false, .slice f1 2 g1, .slice f2 4 g2] 24)).al (.cells #[.int .i64 4, .int .i64 3, .int .i64 6, .int .i64 5] 3))
  have B61 : Hid (Abx wo56 (v3.heap.size) (.bool false) (.slice f1 2 g1) (.slice f2 4 g2)) := by rw [hwo56]; exact (n51.al (.cells #[.int .i64 4, .int .i64 3, .int .i64 6, .int .i64 5] 3))
  have L62 : Hid (MidC (v2.heap.size) (v3.heap.size) wo56 (f1) ([2, 2]) (g1)) := by rw [hwo56]; exact ((L49.out.al (by omega) (.cells #[.bool false, .slice f1 2 g1, .slice f2 4 g2] 24)).al (by simp only [World.size_alloc]; omega) (.cells #[.int .i64 4, .int .i64 3, .int .i64 6, .int .i64 5] 3))
  have L63 : Hid (MidC (v2.heap.size) (v3.heap.size) wo56 (f2) ([4, 3, 6, 5]) (g2)) := by rw [hwo56]; exact ((L50.out.al (by omega) (.cells #[.bool false, .slice f1 2 g1, .slice f2 4 g2] 24)).al (by simp only [World.size_alloc]; omega) (.cells #[.int .i64 4, .int .i64 3, .int .i64 6, .int .i64 5] 3))
  have L64 : Hid (MidC (v3.heap.size + 1) (v3.heap.size + 1 + 1) wo56 (some ⟨v3.heap.size + 1, 0, none⟩) ([4, 3, 6, 5]) (4)) := by rw [hwo56]; exact n55
  have hb65 : Hid (Below w.heap.size w wo56) := by rw [hwo56]; exact ((hb48.out.alloc (by omega) (.cells #[.bool false, .slice f1 2 g1, .slice f2 4 g2] 24)).alloc (by simp only [World.size_alloc]; omega) (.cells #[.int .i64 4, .int .i64 3, .int .i64 6, .int .i64 5] 3))
  have zwo56 : w.heap.size ≤ wo56.heap.size := hb65.out.size
  clear hwo56 n51 l52 l53 l54 n55 hb48 B41 B42 B43 L49 L50
  refine (ints_any f2 g2 [4, 3, 6, 5] (some ⟨v3.heap.size + 1, 0, none⟩) 4 [4, 3, 6, 5] (by simp) _ _ (L63.out.is (by omega)).1 (L64.out.is (by omega)).1).mono ?_
  rintro e v4 ⟨rfl, hB⟩
  have z66 : wo56.heap.size ≤ v4.heap.size := hB.size
  have B67 : Hid (Abx v4 (w.heap.size) (.bool c1) (.slice sa1 sz1.length sc1) (.slice da1 dz1.length dc1)) := B58.out.go hB
  have B68 : Hid (Abx v4 (w.heap.size + 1) (.bool c2) (.slice sa2 sz2.length sc2) (.slice da2 dz2.length dc2)) := B59.out.go hB
  have B69 : Hid (Abx v4 (w.heap.size + 1 + 1) (.bool true) (.slice sa3 sz3.length sc3) (.slice da3 dz3.length dc3)) := B60.out.go hB
  have B70 : Hid (Abx v4 (v3.heap.size) (.bool false) (.slice f1 2 g1) (.slice f2 4 g2)) := B61.out.go hB
  have L71 : Hid (MidC (v2.heap.size) (v3.heap.size) v4 (f1) ([2, 2]) (g1)) := L62.out.go (by omega) hB
  have L72 : Hid (MidC (v2.heap.size) (v3.heap.size) v4 (f2) ([4, 3, 6, 5]) (g2)) := L63.out.go (by omega) hB
  have L73 : Hid (MidC (v3.heap.size + 1) (v3.heap.size + 1 + 1) v4 (some ⟨v3.heap.size + 1, 0, none⟩) ([4, 3, 6, 5]) (4)) := L64.out.go (by omega) hB
  have hb74 : Hid (Below w.heap.size w v4) := hb65.out.trans (hB.mono hb65.out.size)
  clear hB hb65 B58 B59 B60 B61 L62 L63 L64
  rw [eqB_true rfl]
  clear L71 L72 L73 B70
  have l75 := (B67.out).c0
  have l76 := (B67.out).c1
  have l77 := (B67.out).c2
  have l78 := (B68.out).c0
  have l79 := (B68.out).c1
  have l80 := (B68.out).c2
  go_wp2_with fail
  clear l75 l76 l77 l78 l79 l80
  refine (jn_ok 0 (by unfold In64; decide) c1 sa1 sc1 sz1 da1 dc1 dz1 c2 sa2 sc2 sz2 da2 dc2 dz2 _ x11 x12 ((HI1.out.1.below hb74.out).mono hb74.out.size) ((HI1.out.2.1.below hb74.out).mono hb74.out.size) HI1.out.2.2.2 x21 x22 ((HI2.out.1.below hb74.out).mono hb74.out.size) ((HI2.out.2.1.below hb74.out).mono hb74.out.size) HI2.out.2.2.2 S0 D0 HJn HJ.out).mono ?_
  rintro e v5 ⟨xa1, xc1, ya1, yc1, rfl, hX1, hY1, hB⟩
  have z81 : v4.heap.size ≤ v5.heap.size := hB.size
  have B82 : Hid (Abx v5 (w.heap.size) (.bool c1) (.slice sa1 sz1.length sc1) (.slice da1 dz1.length dc1)) := B67.out.go hB
  have B83 : Hid (Abx v5 (w.heap.size + 1) (.bool c2) (.slice sa2 sz2.length sc2) (.slice da2 dz2.length dc2)) := B68.out.go hB
  have B84 : Hid (Abx v5 (w.heap.size + 1 + 1) (.bool true) (.slice sa3 sz3.length sc3) (.slice da3 dz3.length dc3)) := B69.out.go hB
  have hb85 : Hid (Below w.heap.size w v5) := hb74.out.trans (hB.mono hb74.out.size)
  have L86 : Hid (MidC (v4.heap.size) (v5.heap.size) v5 (xa1) (S0) (xc1)) := hX1.midc
  have L87 : Hid (MidC (v4.heap.size) (v5.heap.size) v5 (ya1) (D0) (yc1)) := hY1.midc
  clear hB hb74 B67 B68 B69 hX1 hY1
  have n88 := Abx.new v5 (.bool c1) (.slice xa1 S0.length xc1) (.slice ya1 D0.length yc1)
  have l89 := (n88).c0
  have l90 := (n88).c1
  have l91 := (n88).c2
  have l92 := ((B84.out.al (.cells #[.bool c1, .slice xa1 S0.length xc1, .slice ya1 D0.length yc1] 24))).c0
  have l93 := ((B84.out.al (.cells #[.bool c1, .slice xa1 S0.length xc1, .slice ya1 D0.length yc1] 24))).c1
  have l94 := ((B84.out.al (.cells #[.bool c1, .slice xa1 S0.length xc1, .slice ya1 D0.length yc1] 24))).c2
  go_wp2_with fail
  obtain ⟨wo95, hwo95⟩ : ∃ wo95, wo95 = (v5.alloc (.cells #[.bool c1, .slice xa1 S0.length xc1, .slice ya1 D0.length yc1] 24)) := ⟨_, rfl⟩
  rw [← hwo95]
  have z96 : v5.heap.size + 1 ≤ wo95.heap.size := by rw [hwo95]; simp only [World.size_alloc]; omega
  have B97 : Hid (Abx wo95 (w.heap.size) (.bool c1) (.slice sa1 sz1.length sc1) (.slice da1 dz1.length dc1)) := by rw [hwo95]; exact (B82.out.al (.cells #[.bool c1, .slice xa1 S0.length xc1, .slice ya1 D0.length yc1] 24))
  have B98 : Hid (Abx wo95 (w.heap.size + 1) (.bool c2) (.slice sa2 sz2.length sc2) (.slice da2 dz2.length dc2)) := by rw [hwo95]; exact (B83.out.al (.cells #[.bool c1, .slice xa1 S0.length xc1, .slice ya1 D0.length yc1] 24))
  have B99 : Hid (Abx wo95 (w.heap.size + 1 + 1) (.bool true) (.slice sa3 sz3.length sc3) (.slice da3 dz3.length dc3)) := by rw [hwo95]; exact (B84.out.al (.cells #[.bool c1, .slice xa1 S0.length xc1, .slice ya1 D0.length yc1] 24))
  have B100 : Hid (Abx wo95 (v5.heap.size) (.bool c1) (.slice xa1 S0.length xc1) (.slice ya1 D0.length yc1)) := by rw [hwo95]; exact n88
  have L101 : Hid (MidC (v4.heap.size) (v5.heap.size) wo95 (xa1) (S0) (xc1)) := by rw [hwo95]; exact (L86.out.al (by omega) (.cells #[.bool c1, .slice xa1 S0.length xc1, .slice ya1 D0.length yc1] 24))
  have L102 : Hid (MidC (v4.heap.size) (v5.heap.size) wo95 (ya1) (D0) (yc1)) := by rw [hwo95]; exact (L87.out.al (by omega) (.cells #[.bool c1, .slice xa1 S0.length xc1, .slice ya1 D0.length yc1] 24))
  have hb103 : Hid (Below w.heap.size w wo95) := by rw [hwo95]; exact (hb85.out.alloc (by omega) (.cells #[.bool c1, .slice xa1 S0.length xc1, .slice ya1 D0.length yc1] 24))
  have zwo95 : w.heap.size ≤ wo95.heap.size := hb103.out.size
  clear hwo95 n88 l89 l90 l91 l92 l93 l94 hb85 B82 B83 B84 L86 L87
  refine (otw_ok f c1 xa1 xc1 S0 S0.length rfl ya1 yc1 D0 D0.length rfl true sa3 sc3 sz3 sz3.length rfl da3 dc3 dz3 dz3.length rfl _ hf (by omega) (by omega) (L101.out.is (by omega)).1 (L102.out.is (by omega)).1 HJT.out x31 x32 ((HI3.out.1.1.below hb103.out).mono hb103.out.size) ((HI3.out.2.1.1.below hb103.out).mono hb103.out.size) HI3.out.2.2.2 SY DY HOt HR1.out).mono ?_
  rintro e v6 ⟨xa2, xc2, ya2, yc2, rfl, hX2, hY2, hB⟩
  have z104 : wo95.heap.size ≤ v6.heap.size := hB.size
  have B105 : Hid (Abx v6 (w.heap.size) (.bool c1) (.slice sa1 sz1.length sc1) (.slice da1 dz1.length dc1)) := B97.out.go hB
  have B106 : Hid (Abx v6 (w.heap.size + 1) (.bool c2) (.slice sa2 sz2.length sc2) (.slice da2 dz2.length dc2)) := B98.out.go hB
  have B107 : Hid (Abx v6 (w.heap.size + 1 + 1) (.bool true) (.slice sa3 sz3.length sc3) (.slice da3 dz3.length dc3)) := B99.out.go hB
  have B108 : Hid (Abx v6 (v5.heap.size) (.bool c1) (.slice xa1 S0.length xc1) (.slice ya1 D0.length yc1)) := B100.out.go hB
  have L109 : Hid (MidC (v4.heap.size) (v5.heap.size) v6 (xa1) (S0) (xc1)) := L101.out.go (by omega) hB
  have L110 : Hid (MidC (v4.heap.size) (v5.heap.size) v6 (ya1) (D0) (yc1)) := L102.out.go (by omega) hB
  have hb111 : Hid (Below w.heap.size w v6) := hb103.out.trans (hB.mono hb103.out.size)
  have L112 : Hid (MidC (wo95.heap.size) (v6.heap.size) v6 (xa2) (SY) (xc2)) := hX2.midc
  have L113 : Hid (MidC (wo95.heap.size) (v6.heap.size) v6 (ya2) (DY) (yc2)) := hY2.midc
  clear hB hb103 B97 B98 B99 B100 L101 L102 hX2 hY2
  clear L109 L110 B108
  have n114 := Abx.new v6 (.bool false) (.slice xa2 SY.length xc2) (.slice ya2 DY.length yc2)
  have l115 := ((B105.out.al (.cells #[.bool false, .slice xa2 SY.length xc2, .slice ya2 DY.length yc2] 24))).c0
  have l116 := ((B105.out.al (.cells #[.bool false, .slice xa2 SY.length xc2, .slice ya2 DY.length yc2] 24))).c1
  have l117 := ((B105.out.al (.cells #[.bool false, .slice xa2 SY.length xc2, .slice ya2 DY.length yc2] 24))).c2
  have l118 := ((B107.out.al (.cells #[.bool false, .slice xa2 SY.length xc2, .slice ya2 DY.length yc2] 24))).c0
  have l119 := ((B107.out.al (.cells #[.bool false, .slice xa2 SY.length xc2, .slice ya2 DY.length yc2] 24))).c1
  have l120 := ((B107.out.al (.cells #[.bool false, .slice xa2 SY.length xc2, .slice ya2 DY.length yc2] 24))).c2
  go_wp2_with fail
  obtain ⟨wo121, hwo121⟩ : ∃ wo121, wo121 = (v6.alloc (.cells #[.bool false, .slice xa2 SY.length xc2, .slice ya2 DY.length yc2] 24)) := ⟨_, rfl⟩
  rw [← hwo121]
  have z122 : v6.heap.size + 1 ≤ wo121.heap.size := by rw [hwo121]; simp only [World.size_alloc]; omega
  have B123 : Hid (Abx wo121 (w.heap.size) (.bool c1) (.slice sa1 sz1.length sc1) (.slice da1 dz1.length dc1)) := by rw [hwo121]; exact (B105.out.al (.cells #[.bool false, .slice xa2 SY.length xc2, .slice ya2 DY.length yc2] 24))
  have B124 : Hid (Abx wo121 (w.heap.size + 1) (.bool c2) (.slice sa2 sz2.length sc2) (.slice da2 dz2.length dc2)) := by rw [hwo121]; exact (B106.out.al (.cells #[.bool false, .slice xa2 SY.length xc2, .slice ya2 DY.length yc2] 24))
  have B125 : Hid (Abx wo121 (w.heap.size + 1 + 1) (.bool true) (.slice sa3 sz3.length sc3) (.slice da3 dz3.length dc3)) := by rw [hwo121]; exact (B107.out.al (.cells #[.bool false, .slice xa2 SY.length xc2, .slice ya2 DY.length yc2] 24))
  have B126 : Hid (Abx wo121 (v6.heap.size) (.bool false) (.slice xa2 SY.length xc2) (.slice ya2 DY.length yc2)) := by rw [hwo121]; exact n114
  have L127 : Hid (MidC (wo95.heap.size) (v6.heap.size) wo121 (xa2) (SY) (xc2)) := by rw [hwo121]; exact (L112.out.al (by omega) (.cells #[.bool false, .slice xa2 SY.length xc2, .slice ya2 DY.length yc2] 24))
  have L128 : Hid (MidC (wo95.heap.size) (v6.heap.size) wo121 (ya2) (DY) (yc2)) := by rw [hwo121]; exact (L113.out.al (by omega) (.cells #[.bool false, .slice xa2 SY.length xc2, .slice ya2 DY.length yc2] 24))
  have hb129 : Hid (Below w.heap.size w wo121) := by rw [hwo121]; exact (hb111.out.alloc (by omega) (.cells #[.bool false, .slice xa2 SY.length xc2, .slice ya2 DY.length yc2] 24))
  have zwo121 : w.heap.size ≤ wo121.heap.size := hb129.out.size
  clear hwo121 n114 l115 l116 l117 l118 l119 l120 hb111 B105 B106 B107 L112 L113
  refine (otw_ok f c1 sa1 sc1 sz1 sz1.length rfl da1 dc1 dz1 dz1.length rfl true sa3 sc3 sz3 sz3.length rfl da3 dc3 dz3 dz3.length rfl _ hf x11 x12 ((HI1.out.1.1.below hb129.out).mono hb129.out.size) ((HI1.out.2.1.1.below hb129.out).mono hb129.out.size) HI1.out.2.2.2 x31 x32 ((HI3.out.1.1.below hb129.out).mono hb129.out.size) ((HI3.out.2.1.1.below hb129.out).mono hb129.out.size) HI3.out.2.2.2 SP DP HOt HR2.out).mono ?_
  rintro e v7 ⟨xa3, xc3, ya3, yc3, rfl, hX3, hY3, hB⟩
  have z130 : wo121.heap.size ≤ v7.heap.size := hB.size
  have B131 : Hid (Abx v7 (w.heap.size) (.bool c1) (.slice sa1 sz1.length sc1) (.slice da1 dz1.length dc1)) := B123.out.go hB
  have B132 : Hid (Abx v7 (w.heap.size + 1) (.bool c2) (.slice sa2 sz2.length sc2) (.slice da2 dz2.length dc2)) := B124.out.go hB
  have B133 : Hid (Abx v7 (w.heap.size + 1 + 1) (.bool true) (.slice sa3 sz3.length sc3) (.slice da3 dz3.length dc3)) := B125.out.go hB
  have B134 : Hid (Abx v7 (v6.heap.size) (.bool false) (.slice xa2 SY.length xc2) (.slice ya2 DY.length yc2)) := B126.out.go hB
  have L135 : Hid (MidC (wo95.heap.size) (v6.heap.size) v7 (xa2) (SY) (xc2)) := L127.out.go (by omega) hB
  have L136 : Hid (MidC (wo95.heap.size) (v6.heap.size) v7 (ya2) (DY) (yc2)) := L128.out.go (by omega) hB
  have hb137 : Hid (Below w.heap.size w v7) := hb129.out.trans (hB.mono hb129.out.size)
  have L138 : Hid (MidC (wo121.heap.size) (v7.heap.size) v7 (xa3) (SP) (xc3)) := hX3.midc
  have L139 : Hid (MidC (wo121.heap.size) (v7.heap.size) v7 (ya3) (DP) (yc3)) := hY3.midc
  clear hB hb129 B123 B124 B125 B126 L127 L128 hX3 hY3
  have n140 := Abx.new v7 (.bool false) (.slice xa3 SP.length xc3) (.slice ya3 DP.length yc3)
  have l141 := ((B132.out.al (.cells #[.bool false, .slice xa3 SP.length xc3, .slice ya3 DP.length yc3] 24))).c0
  have l142 := ((B132.out.al (.cells #[.bool false, .slice xa3 SP.length xc3, .slice ya3 DP.length yc3] 24))).c1
  have l143 := ((B132.out.al (.cells #[.bool false, .slice xa3 SP.length xc3, .slice ya3 DP.length yc3] 24))).c2
  have l144 := ((B133.out.al (.cells #[.bool false, .slice xa3 SP.length xc3, .slice ya3 DP.length yc3] 24))).c0
  have l145 := ((B133.out.al (.cells #[.bool false, .slice xa3 SP.length xc3, .slice ya3 DP.length yc3] 24))).c1
  have l146 := ((B133.out.al (.cells #[.bool false, .slice xa3 SP.length xc3, .slice ya3 DP.length yc3] 24))).c2
  go_wp2_with fail
  obtain ⟨wo147, hwo147⟩ : ∃ wo147, wo147 = (v7.alloc (.cells #[.bool false, .slice xa3 SP.length xc3, .slice ya3 DP.length yc3] 24)) := ⟨_, rfl⟩
  rw [← hwo147]
  have z148 : v7.heap.size + 1 ≤ wo147.heap.size := by rw [hwo147]; simp only [World.size_alloc]; omega
  have B149 : Hid (Abx wo147 (w.heap.size) (.bool c1) (.slice sa1 sz1.length sc1) (.slice da1 dz1.length dc1)) := by rw [hwo147]; exact (B131.out.al (.cells #[.bool false, .slice xa3 SP.length xc3, .slice ya3 DP.length yc3] 24))
  have B150 : Hid (Abx wo147 (w.heap.size + 1) (.bool c2) (.slice sa2 sz2.length sc2) (.slice da2 dz2.length dc2)) := by rw [hwo147]; exact (B132.out.al (.cells #[.bool false, .slice xa3 SP.length xc3, .slice ya3 DP.length yc3] 24))
  have B151 : Hid (Abx wo147 (w.heap.size + 1 + 1) (.bool true) (.slice sa3 sz3.length sc3) (.slice da3 dz3.length dc3)) := by rw [hwo147]; exact (B133.out.al (.cells #[.bool false, .slice xa3 SP.length xc3, .slice ya3 DP.length yc3] 24))
  have B152 : Hid (Abx wo147 (v6.heap.size) (.bool false) (.slice xa2 SY.length xc2) (.slice ya2 DY.length yc2)) := by rw [hwo147]; exact (B134.out.al (.cells #[.bool false, .slice xa3 SP.length xc3, .slice ya3 DP.length yc3] 24))
  have B153 : Hid (Abx wo147 (v7.heap.size) (.bool false) (.slice xa3 SP.length xc3) (.slice ya3 DP.length yc3)) := by rw [hwo147]; exact n140
  have L154 : Hid (MidC (wo95.heap.size) (v6.heap.size) wo147 (xa2) (SY) (xc2)) := by rw [hwo147]; exact (L135.out.al (by omega) (.cells #[.bool false, .slice xa3 SP.length xc3, .slice ya3 DP.length yc3] 24))
  have L155 : Hid (MidC (wo95.heap.size) (v6.heap.size) wo147 (ya2) (DY) (yc2)) := by rw [hwo147]; exact (L136.out.al (by omega) (.cells #[.bool false, .slice xa3 SP.length xc3, .slice ya3 DP.length yc3] 24))
  have L156 : Hid (MidC (wo121.heap.size) (v7.heap.size) wo147 (xa3) (SP) (xc3)) := by rw [hwo147]; exact (L138.out.al (by omega) (.cells #[.bool false, .slice xa3 SP.length xc3, .slice ya3 DP.length yc3] 24))
  have L157 : Hid (MidC (wo121.heap.size) (v7.heap.size) wo147 (ya3) (DP) (yc3)) := by rw [hwo147]; exact (L139.out.al (by omega) (.cells #[.bool false, .slice xa3 SP.length xc3, .slice ya3 DP.length yc3] 24))
  have hb158 : Hid (Below w.heap.size w wo147) := by rw [hwo147]; exact (hb137.out.alloc (by omega) (.cells #[.bool false, .slice xa3 SP.length xc3, .slice ya3 DP.length yc3] 24))
  have zwo147 : w.heap.size ≤ wo147.heap.size := hb158.out.size
  clear hwo147 n140 l141 l142 l143 l144 l145 l146 hb137 B131 B132 B133 B134 L135 L136 L138 L139
  refine (otw_ok f c2 sa2 sc2 sz2 sz2.length rfl da2 dc2 dz2 dz2.length rfl true sa3 sc3 sz3 sz3.length rfl da3 dc3 dz3 dz3.length rfl _ hf x21 x22 ((HI2.out.1.1.below hb158.out).mono hb158.out.size) ((HI2.out.2.1.1.below hb158.out).mono hb158.out.size) HI2.out.2.2.2 x31 x32 ((HI3.out.1.1.below hb158.out).mono hb158.out.size) ((HI3.out.2.1.1.below hb158.out).mono hb158.out.size) HI3.out.2.2.2 SQ DQ HOt HR3.out).mono ?_
  rintro e v8 ⟨xa4, xc4, ya4, yc4, rfl, hX4, hY4, hB⟩
  have z159 : wo147.heap.size ≤ v8.heap.size := hB.size
  have B160 : Hid (Abx v8 (w.heap.size) (.bool c1) (.slice sa1 sz1.length sc1) (.slice da1 dz1.length dc1)) := B149.out.go hB
  have B161 : Hid (Abx v8 (w.heap.size + 1) (.bool c2) (.slice sa2 sz2.length sc2) (.slice da2 dz2.length dc2)) := B150.out.go hB
  have B162 : Hid (Abx v8 (w.heap.size + 1 + 1) (.bool true) (.slice sa3 sz3.length sc3) (.slice da3 dz3.length dc3)) := B151.out.go hB
  have B163 : Hid (Abx v8 (v6.heap.size) (.bool false) (.slice xa2 SY.length xc2) (.slice ya2 DY.length yc2)) := B152.out.go hB
  have B164 : Hid (Abx v8 (v7.heap.size) (.bool false) (.slice xa3 SP.length xc3) (.slice ya3 DP.length yc3)) := B153.out.go hB
  have L165 : Hid (MidC (wo95.heap.size) (v6.heap.size) v8 (xa2) (SY) (xc2)) := L154.out.go (by omega) hB
  have L166 : Hid (MidC (wo95.heap.size) (v6.heap.size) v8 (ya2) (DY) (yc2)) := L155.out.go (by omega) hB
  have L167 : Hid (MidC (wo121.heap.size) (v7.heap.size) v8 (xa3) (SP) (xc3)) := L156.out.go (by omega) hB
  have L168 : Hid (MidC (wo121.heap.size) (v7.heap.size) v8 (ya3) (DP) (yc3)) := L157.out.go (by omega) hB
  have hb169 : Hid (Below w.heap.size w v8) := hb158.out.trans (hB.mono hb158.out.size)
  have L170 : Hid (MidC (wo147.heap.size) (v8.heap.size) v8 (xa4) (SQ) (xc4)) := hX4.midc
  have L171 : Hid (MidC (wo147.heap.size) (v8.heap.size) v8 (ya4) (DQ) (yc4)) := hY4.midc
  clear hB hb158 B149 B150 B151 B152 B153 L154 L155 L156 L157 hX4 hY4
  have n172 := Abx.new v8 (.bool false) (.slice xa4 SQ.length xc4) (.slice ya4 DQ.length yc4)
  have l173 := ((B164.out.al (.cells #[.bool false, .slice xa4 SQ.length xc4, .slice ya4 DQ.length yc4] 24))).c0
  have l174 := ((B164.out.al (.cells #[.bool false, .slice xa4 SQ.length xc4, .slice ya4 DQ.length yc4] 24))).c1
  have l175 := ((B164.out.al (.cells #[.bool false, .slice xa4 SQ.length xc4, .slice ya4 DQ.length yc4] 24))).c2
  have l176 := (n172).c0
  have l177 := (n172).c1
  have l178 := (n172).c2
  go_wp2_with fail
  obtain ⟨wo179, hwo179⟩ : ∃ wo179, wo179 = (v8.alloc (.cells #[.bool false, .slice xa4 SQ.length xc4, .slice ya4 DQ.length yc4] 24)) := ⟨_, rfl⟩
  rw [← hwo179]
  have z180 : v8.heap.size + 1 ≤ wo179.heap.size := by rw [hwo179]; simp only [World.size_alloc]; omega
  have B181 : Hid (Abx wo179 (w.heap.size) (.bool c1) (.slice sa1 sz1.length sc1) (.slice da1 dz1.length dc1)) := by rw [hwo179]; exact (B160.out.al (.cells #[.bool false, .slice xa4 SQ.length xc4, .slice ya4 DQ.length yc4] 24))
  have B182 : Hid (Abx wo179 (w.heap.size + 1) (.bool c2) (.slice sa2 sz2.length sc2) (.slice da2 dz2.length dc2)) := by rw [hwo179]; exact (B161.out.al (.cells #[.bool false, .slice xa4 SQ.length xc4, .slice ya4 DQ.length yc4] 24))
  have B183 : Hid (Abx wo179 (w.heap.size + 1 + 1) (.bool true) (.slice sa3 sz3.length sc3) (.slice da3 dz3.length dc3)) := by rw [hwo179]; exact (B162.out.al (.cells #[.bool false, .slice xa4 SQ.length xc4, .slice ya4 DQ.length yc4] 24))
  have B184 : Hid (Abx wo179 (v6.heap.size) (.bool false) (.slice xa2 SY.length xc2) (.slice ya2 DY.length yc2)) := by rw [hwo179]; exact (B163.out.al (.cells #[.bool false, .slice xa4 SQ.length xc4, .slice ya4 DQ.length yc4] 24))
  have B185 : Hid (Abx wo179 (v7.heap.size) (.bool false) (.slice xa3 SP.length xc3) (.slice ya3 DP.length yc3)) := by rw [hwo179]; exact (B164.out.al (.cells #[.bool false, .slice xa4 SQ.length xc4, .slice ya4 DQ.length yc4] 24))
  have B186 : Hid (Abx wo179 (v8.heap.size) (.bool false) (.slice xa4 SQ.length xc4) (.slice ya4 DQ.length yc4)) := by rw [hwo179]; exact n172
  have L187 : Hid (MidC (wo95.heap.size) (v6.heap.size) wo179 (xa2) (SY) (xc2)) := by rw [hwo179]; exact (L165.out.al (by omega) (.cells #[.bool false, .slice xa4 SQ.length xc4, .slice ya4 DQ.length yc4] 24))
  have L188 : Hid (MidC (wo95.heap.size) (v6.heap.size) wo179 (ya2) (DY) (yc2)) := by rw [hwo179]; exact (L166.out.al (by omega) (.cells #[.bool false, .slice xa4 SQ.length xc4, .slice ya4 DQ.length yc4] 24))
  have L189 : Hid (MidC (wo121.heap.size) (v7.heap.size) wo179 (xa3) (SP) (xc3)) := by rw [hwo179]; exact (L167.out.al (by omega) (.cells #[.bool false, .slice xa4 SQ.length xc4, .slice ya4 DQ.length yc4] 24))
  have L190 : Hid (MidC (wo121.heap.size) (v7.heap.size) wo179 (ya3) (DP) (yc3)) := by rw [hwo179]; exact (L168.out.al (by omega) (.cells #[.bool false, .slice xa4 SQ.length xc4, .slice ya4 DQ.length yc4] 24))
  have L191 : Hid (MidC (wo147.heap.size) (v8.heap.size) wo179 (xa4) (SQ) (xc4)) := by rw [hwo179]; exact (L170.out.al (by omega) (.cells #[.bool false, .slice xa4 SQ.length xc4, .slice ya4 DQ.length yc4] 24))
  have L192 : Hid (MidC (wo147.heap.size) (v8.heap.size) wo179 (ya4) (DQ) (yc4)) := by rw [hwo179]; exact (L171.out.al (by omega) (.cells #[.bool false, .slice xa4 SQ.length xc4, .slice ya4 DQ.length yc4] 24))
  have hb193 : Hid (Below w.heap.size w wo179) := by rw [hwo179]; exact (hb169.out.alloc (by omega) (.cells #[.bool false, .slice xa4 SQ.length xc4, .slice ya4 DQ.length yc4] 24))
  have zwo179 : w.heap.size ≤ wo179.heap.size := hb193.out.size
  clear hwo179 n172 l173 l174 l175 l176 l177 l178 hb169 B160 B161 B162 B163 B164 L165 L166 L167 L168 L170 L171
  refine (jn_ok 0 (by unfold In64; decide) false xa3 xc3 SP ya3 yc3 DP false xa4 xc4 SQ ya4 yc4 DQ _ (by omega) (by omega) (L189.out.is (by omega)) (L190.out.is (by omega)) HTT.out.1 (by omega) (by omega) (L191.out.is (by omega)) (L192.out.is (by omega)) HTT.out.2 SY DY HJn HR4.out).mono ?_
  rintro e v9 ⟨xa5, xc5, ya5, yc5, rfl, hX5, hY5, hB⟩
  have z194 : wo179.heap.size ≤ v9.heap.size := hB.size
  have B195 : Hid (Abx v9 (w.heap.size) (.bool c1) (.slice sa1 sz1.length sc1) (.slice da1 dz1.length dc1)) := B181.out.go hB
  have B196 : Hid (Abx v9 (w.heap.size + 1) (.bool c2) (.slice sa2 sz2.length sc2) (.slice da2 dz2.length dc2)) := B182.out.go hB
  have B197 : Hid (Abx v9 (w.heap.size + 1 + 1) (.bool true) (.slice sa3 sz3.length sc3) (.slice da3 dz3.length dc3)) := B183.out.go hB
  have B198 : Hid (Abx v9 (v6.heap.size) (.bool false) (.slice xa2 SY.length xc2) (.slice ya2 DY.length yc2)) := B184.out.go hB
  have B199 : Hid (Abx v9 (v7.heap.size) (.bool false) (.slice xa3 SP.length xc3) (.slice ya3 DP.length yc3)) := B185.out.go hB
  have B200 : Hid (Abx v9 (v8.heap.size) (.bool false) (.slice xa4 SQ.length xc4) (.slice ya4 DQ.length yc4)) := B186.out.go hB
  have L201 : Hid (MidC (wo95.heap.size) (v6.heap.size) v9 (xa2) (SY) (xc2)) := L187.out.go (by omega) hB
  have L202 : Hid (MidC (wo95.heap.size) (v6.heap.size) v9 (ya2) (DY) (yc2)) := L188.out.go (by omega) hB
  have L203 : Hid (MidC (wo121.heap.size) (v7.heap.size) v9 (xa3) (SP) (xc3)) := L189.out.go (by omega) hB
  have L204 : Hid (MidC (wo121.heap.size) (v7.heap.size) v9 (ya3) (DP) (yc3)) := L190.out.go (by omega) hB
  have L205 : Hid (MidC (wo147.heap.size) (v8.heap.size) v9 (xa4) (SQ) (xc4)) := L191.out.go (by omega) hB
  have L206 : Hid (MidC (wo147.heap.size) (v8.heap.size) v9 (ya4) (DQ) (yc4)) := L192.out.go (by omega) hB
  have hb207 : Hid (Below w.heap.size w v9) := hb193.out.trans (hB.mono hb193.out.size)
  have L208 : Hid (MidC (wo179.heap.size) (v9.heap.size) v9 (xa5) (SY) (xc5)) := hX5.midc
  have L209 : Hid (MidC (wo179.heap.size) (v9.heap.size) v9 (ya5) (DY) (yc5)) := hY5.midc
  clear hB hb193 B181 B182 B183 B184 B185 B186 L187 L188 L189 L190 L191 L192 hX5 hY5
  clear L203 L204 L205 L206 B199 B200
  have n210 := Abx.new v9 (.bool false) (.slice xa5 SY.length xc5) (.slice ya5 DY.length yc5)
  have l211 := ((B198.out.al (.cells #[.bool false, .slice xa5 SY.length xc5, .slice ya5 DY.length yc5] 24))).c0
  have l212 := ((B198.out.al (.cells #[.bool false, .slice xa5 SY.length xc5, .slice ya5 DY.length yc5] 24))).c1
  have l213 := ((B198.out.al (.cells #[.bool false, .slice xa5 SY.length xc5, .slice ya5 DY.length yc5] 24))).c2
  have l214 := (n210).c0
  have l215 := (n210).c1
  have l216 := (n210).c2
  go_wp2_with fail
  obtain ⟨wo217, hwo217⟩ : ∃ wo217, wo217 = (v9.alloc (.cells #[.bool false, .slice xa5 SY.length xc5, .slice ya5 DY.length yc5] 24)) := ⟨_, rfl⟩
  rw [← hwo217]
  have z218 : v9.heap.size + 1 ≤ wo217.heap.size := by rw [hwo217]; simp only [World.size_alloc]; omega
  have B219 : Hid (Abx wo217 (w.heap.size) (.bool c1) (.slice sa1 sz1.length sc1) (.slice da1 dz1.length dc1)) := by rw [hwo217]; exact (B195.out.al (.cells #[.bool false, .slice xa5 SY.length xc5, .slice ya5 DY.length yc5] 24))
  have B220 : Hid (Abx wo217 (w.heap.size + 1) (.bool c2) (.slice sa2 sz2.length sc2) (.slice da2 dz2.length dc2)) := by rw [hwo217]; exact (B196.out.al (.cells #[.bool false, .slice xa5 SY.length xc5, .slice ya5 DY.length yc5] 24))
  have B221 : Hid (Abx wo217 (w.heap.size + 1 + 1) (.bool true) (.slice sa3 sz3.length sc3) (.slice da3 dz3.length dc3)) := by rw [hwo217]; exact (B197.out.al (.cells #[.bool false, .slice xa5 SY.length xc5, .slice ya5 DY.length yc5] 24))
  have B222 : Hid (Abx wo217 (v6.heap.size) (.bool false) (.slice xa2 SY.length xc2) (.slice ya2 DY.length yc2)) := by rw [hwo217]; exact (B198.out.al (.cells #[.bool false, .slice xa5 SY.length xc5, .slice ya5 DY.length yc5] 24))
  have B223 : Hid (Abx wo217 (v9.heap.size) (.bool false) (.slice xa5 SY.length xc5) (.slice ya5 DY.length yc5)) := by rw [hwo217]; exact n210
  have L224 : Hid (MidC (wo95.heap.size) (v6.heap.size) wo217 (xa2) (SY) (xc2)) := by rw [hwo217]; exact (L201.out.al (by omega) (.cells #[.bool false, .slice xa5 SY.length xc5, .slice ya5 DY.length yc5] 24))
  have L225 : Hid (MidC (wo95.heap.size) (v6.heap.size) wo217 (ya2) (DY) (yc2)) := by rw [hwo217]; exact (L202.out.al (by omega) (.cells #[.bool false, .slice xa5 SY.length xc5, .slice ya5 DY.length yc5] 24))
  have L226 : Hid (MidC (wo179.heap.size) (v9.heap.size) wo217 (xa5) (SY) (xc5)) := by rw [hwo217]; exact (L208.out.al (by omega) (.cells #[.bool false, .slice xa5 SY.length xc5, .slice ya5 DY.length yc5] 24))
  have L227 : Hid (MidC (wo179.heap.size) (v9.heap.size) wo217 (ya5) (DY) (yc5)) := by rw [hwo217]; exact (L209.out.al (by omega) (.cells #[.bool false, .slice xa5 SY.length xc5, .slice ya5 DY.length yc5] 24))
  have hb228 : Hid (Below w.heap.size w wo217) := by rw [hwo217]; exact (hb207.out.alloc (by omega) (.cells #[.bool false, .slice xa5 SY.length xc5, .slice ya5 DY.length yc5] 24))
  have zwo217 : w.heap.size ≤ wo217.heap.size := hb228.out.size
  clear hwo217 n210 l211 l212 l213 l214 l215 l216 hb207 B195 B196 B197 B198 L201 L202 L208 L209
  refine (alike_eq false xa2 xc2 SY ya2 yc2 DY xa5 xc5 SY ya5 yc5 DY rfl rfl (by omega) (by omega) _ (L224.out.is (by omega)) (L225.out.is (by omega)).1 (L226.out.is (by omega)) (L227.out.is (by omega)).1).mono ?_
  rintro e v10 ⟨rfl, hB⟩
  have z229 : wo217.heap.size ≤ v10.heap.size := hB.size
  have B230 : Hid (Abx v10 (w.heap.size) (.bool c1) (.slice sa1 sz1.length sc1) (.slice da1 dz1.length dc1)) := B219.out.go hB
  have B231 : Hid (Abx v10 (w.heap.size + 1) (.bool c2) (.slice sa2 sz2.length sc2) (.slice da2 dz2.length dc2)) := B220.out.go hB
  have B232 : Hid (Abx v10 (w.heap.size + 1 + 1) (.bool true) (.slice sa3 sz3.length sc3) (.slice da3 dz3.length dc3)) := B221.out.go hB
  have B233 : Hid (Abx v10 (v6.heap.size) (.bool false) (.slice xa2 SY.length xc2) (.slice ya2 DY.length yc2)) := B222.out.go hB
  have B234 : Hid (Abx v10 (v9.heap.size) (.bool false) (.slice xa5 SY.length xc5) (.slice ya5 DY.length yc5)) := B223.out.go hB
  have L235 : Hid (MidC (wo95.heap.size) (v6.heap.size) v10 (xa2) (SY) (xc2)) := L224.out.go (by omega) hB
  have L236 : Hid (MidC (wo95.heap.size) (v6.heap.size) v10 (ya2) (DY) (yc2)) := L225.out.go (by omega) hB
  have L237 : Hid (MidC (wo179.heap.size) (v9.heap.size) v10 (xa5) (SY) (xc5)) := L226.out.go (by omega) hB
  have L238 : Hid (MidC (wo179.heap.size) (v9.heap.size) v10 (ya5) (DY) (yc5)) := L227.out.go (by omega) hB
  have hb239 : Hid (Below w.heap.size w v10) := hb228.out.trans (hB.mono hb228.out.size)
  clear hB hb228 B219 B220 B221 B222 B223 L224 L225 L226 L227
  clear L235 L236 L237 L238 B233 B234
  have l0 := B232.out.c0
  have l1 := B230.out.c0
  have l2 := B230.out.c1
  have l3 := B232.out.c1
  go_wp2_with fail
  go_ret
  exact ⟨rfl, hb239.out⟩
set_option maxRecDepth 100000 in
set_option maxHeartbeats 8000000 in
theorem parts_c1 (HOt : COt) (HJn : CJn) (HRd : CRd) (H2 : C2d) (f : Int) (hf : In64 f) (c1 : Bool) (sa1 : Option Addr) (sc1 : Nat) (sz1 : List Int) (da1 : Option Addr) (dc1 : Nat) (dz1 : List Int) (c2 : Bool) (sa2 : Option Addr) (sc2 : Nat) (sz2 : List Int) (da2 : Option Addr) (dc2 : Nat) (dz2 : List Int) (c3 : Bool) (sa3 : Option Addr) (sc3 : Nat) (sz3 : List Int) (da3 : Option Addr) (dc3 : Nat) (dz3 : List Int) (w : World) (w8 : IsArrD w sa1 sz1 sc1 da1 dz1 dc1) (w9 : IsArrD w sa2 sz2 sc2 da2 dz2 dc2) (w10 : IsArrD w sa3 sz3 sc3 da3 dz3 dc3) (J : Hid (jnE 0 c1 sz1 dz1 c2 sz2 dz2 = 0)) (O : ∀ S0 D0, jnS (0 : Int).toNat sz1 sz2 = S0 → jnD (0 : Int).toNat sz1 dz1 sz2 dz2 = D0 → otE f c1 S0 D0 c3 sz3 dz3 = 0) (hc3 : c3 = false) (hc1 : c1 = true) :
    Calls Try.prog 4 #[.int .i64 f, .agg #[.bool c1, .slice sa1 sz1.length sc1, .slice da1 dz1.length dc1], .agg #[.bool c2, .slice sa2 sz2.length sc2, .slice da2 dz2.length dc2], .agg #[.bool c3, .slice sa3 sz3.length sc3, .slice da3 dz3.length dc3]] w fun e w' => e = .returned (.bool true) ∧ Below w.heap.size w w' := by
  subst hc3
  subst hc1
  obtain ⟨S0, hS0⟩ : ∃ S0, jnS (0 : Int).toNat sz1 sz2 = S0 := ⟨_, rfl⟩
  obtain ⟨D0, hD0⟩ : ∃ D0, jnD (0 : Int).toNat sz1 dz1 sz2 dz2 = D0 := ⟨_, rfl⟩
  have HJ : Hid (jnE 0 true sz1 dz1 c2 sz2 dz2 = 0 ∧ jnS (0 : Int).toNat sz1 sz2 = S0 ∧ jnD (0 : Int).toNat sz1 dz1 sz2 dz2 = D0) := ⟨J.out, hS0, hD0⟩
  have HJT : Hid (∀ j, In64 (nth D0 j)) := by rw [← hD0]; exact jn_64 J.out w8.2.2.2.2.2 w9.2.2.2.2.2
  have LJ : S0.length ≤ 4096 ∧ D0.length ≤ 4096 := by rw [← hS0, ← hD0]; exact jn_short13 J.out
  obtain ⟨SY, DY, SP, DP, SQ, DQ, R1, R2, R3, R4, TT, L1, L2, L3⟩ := parts13 J.out hS0 hD0 (O _ _ hS0 hD0) w8.2.2.2.2.2 w9.2.2.2.2.2 w10.2.2.2.2.2
  have HR1 : Hid (_) := R1
  have HR2 : Hid (_) := R2
  have HR3 : Hid (_) := R3
  have HR4 : Hid (_) := R4
  have HTT : Hid (_) := TT
  clear R1 R2 R3 R4 TT O hS0 hD0
  obtain ⟨x11, x12, x3, x4, s64, T⟩ := w8
  have HI1 : Hid (IsC w.heap.size w sa1 sz1 sc1 ∧ IsC w.heap.size w da1 dz1 dc1 ∧ (∀ j, In64 (nth sz1 j)) ∧ ∀ j, In64 (nth dz1 j)) := ⟨x3, x4, s64, T⟩
  clear x3 x4 T s64
  obtain ⟨x21, x22, x3, x4, s64, T⟩ := w9
  have HI2 : Hid (IsC w.heap.size w sa2 sz2 sc2 ∧ IsC w.heap.size w da2 dz2 dc2 ∧ (∀ j, In64 (nth sz2 j)) ∧ ∀ j, In64 (nth dz2 j)) := ⟨x3, x4, s64, T⟩
  clear x3 x4 T s64
  obtain ⟨x31, x32, x3, x4, s64, T⟩ := w10
  have HI3 : Hid (IsC w.heap.size w sa3 sz3 sc3 ∧ IsC w.heap.size w da3 dz3 dc3 ∧ (∀ j, In64 (nth sz3 j)) ∧ ∀ j, In64 (nth dz3 j)) := ⟨x3, x4, s64, T⟩
  clear x3 x4 T s64
  have n1 := Abx.new w (.bool true) (.slice sa1 sz1.length sc1) (.slice da1 dz1.length dc1)
  have n2 := Abx.new (w.alloc (.cells #[.bool true, .slice sa1 sz1.length sc1, .slice da1 dz1.length dc1] 24)) (.bool c2) (.slice sa2 sz2.length sc2) (.slice da2 dz2.length dc2)
  simp only [World.size_alloc] at n2
  have n3 := Abx.new ((w.alloc (.cells #[.bool true, .slice sa1 sz1.length sc1, .slice da1 dz1.length dc1] 24)).alloc (.cells #[.bool c2, .slice sa2 sz2.length sc2, .slice da2 dz2.length dc2] 24)) (.bool false) (.slice sa3 sz3.length sc3) (.slice da3 dz3.length dc3)
  simp only [World.size_alloc] at n3
  have n4 := lit_mid (((w.alloc (.cells #[.bool true, .slice sa1 sz1.length sc1, .slice da1 dz1.length dc1] 24)).alloc (.cells #[.bool c2, .slice sa2 sz2.length sc2, .slice da2 dz2.length dc2] 24)).alloc (.cells #[.bool false, .slice sa3 sz3.length sc3, .slice da3 dz3.length dc3] 24)) 3 [5, 7] 2 rfl
  simp only [World.size_alloc, List.map_cons, List.map_nil] at n4
  go_enter Try.func4, Try.ntmps4
  go_wp2_with fail
  obtain ⟨wo5, hwo5⟩ : ∃ wo5, wo5 = ((((w.alloc (.cells #[.bool true, .slice sa1 sz1.length sc1, .slice da1 dz1.length dc1] 24)).alloc (.cells #[.bool c2, .slice sa2 sz2.length sc2, .slice da2 dz2.length dc2] 24)).alloc (.cells #[.bool false, .slice sa3 sz3.length sc3, .slice da3 dz3.length dc3] 24)).alloc (.cells #[.int .i64 5, .int .i64 7] 3)) := ⟨_, rfl⟩
  rw [← hwo5]
  have z6 : w.heap.size + 1 + 1 + 1 + 1 ≤ wo5.heap.size := by rw [hwo5]; simp only [World.size_alloc]; omega
  have B7 : Hid (Abx wo5 (w.heap.size) (.bool true) (.slice sa1 sz1.length sc1) (.slice da1 dz1.length dc1)) := by rw [hwo5]; exact (((n1.al (.cells #[.bool c2, .slice sa2 sz2.length sc2, .slice da2 dz2.length dc2] 24)).al (.cells #[.bool false, .slice sa3 sz3.length sc3, .slice da3 dz3.length dc3] 24)).al (.cells #[.int .i64 5, .int .i64 7] 3))
  have B8 : Hid (Abx wo5 (w.heap.size + 1) (.bool c2) (.slice sa2 sz2.length sc2) (.slice da2 dz2.length dc2)) := by rw [hwo5]; exact ((n2.al (.cells #[.bool false, .slice sa3 sz3.length sc3, .slice da3 dz3.length dc3] 24)).al (.cells #[.int .i64 5, .int .i64 7] 3))
  have B9 : Hid (Abx wo5 (w.heap.size + 1 + 1) (.bool false) (.slice sa3 sz3.length sc3) (.slice da3 dz3.length dc3)) := by rw [hwo5]; exact (n3.al (.cells #[.int .i64 5, .int .i64 7] 3))
  have L10 : Hid (MidC (w.heap.size + 1 + 1 + 1) (w.heap.size + 1 + 1 + 1 + 1) wo5 (some ⟨w.heap.size + 1 + 1 + 1, 0, none⟩) ([5, 7]) (2)) := by rw [hwo5]; exact n4
  have hb11 : Hid (Below w.heap.size w wo5) := by rw [hwo5]; exact (((((Below.refl w.heap.size w).alloc (by omega) (.cells #[.bool true, .slice sa1 sz1.length sc1, .slice da1 dz1.length dc1] 24)).alloc (by simp only [World.size_alloc]; omega) (.cells #[.bool c2, .slice sa2 sz2.length sc2, .slice da2 dz2.length dc2] 24)).alloc (by simp only [World.size_alloc]; omega) (.cells #[.bool false, .slice sa3 sz3.length sc3, .slice da3 dz3.length dc3] 24)).alloc (by simp only [World.size_alloc]; omega) (.cells #[.int .i64 5, .int .i64 7] 3))
  have zwo5 : w.heap.size ≤ wo5.heap.size := hb11.out.size
  clear hwo5 n1 n2 n3 n4
  refine (vec_c (some ⟨w.heap.size + 1 + 1 + 1, 0, none⟩) 2 [5, 7] (by simp) _ (L10.out.is (by omega)).1).mono ?_
  rintro e v1 ⟨vap, vcp, gap, gcp, rfl, hVp, hGp, hB⟩
  have z12 : wo5.heap.size ≤ v1.heap.size := hB.size
  have B13 : Hid (Abx v1 (w.heap.size) (.bool true) (.slice sa1 sz1.length sc1) (.slice da1 dz1.length dc1)) := B7.out.go hB
  have B14 : Hid (Abx v1 (w.heap.size + 1) (.bool c2) (.slice sa2 sz2.length sc2) (.slice da2 dz2.length dc2)) := B8.out.go hB
  have B15 : Hid (Abx v1 (w.heap.size + 1 + 1) (.bool false) (.slice sa3 sz3.length sc3) (.slice da3 dz3.length dc3)) := B9.out.go hB
  have L16 : Hid (MidC (w.heap.size + 1 + 1 + 1) (w.heap.size + 1 + 1 + 1 + 1) v1 (some ⟨w.heap.size + 1 + 1 + 1, 0, none⟩) ([5, 7]) (2)) := L10.out.go (by omega) hB
  have hb17 : Hid (Below w.heap.size w v1) := hb11.out.trans (hB.mono hb11.out.size)
  have L18 : Hid (MidC (wo5.heap.size) (v1.heap.size) v1 (vap) ([(2 : Int)]) (vcp)) := hVp.midc
  have L19 : Hid (MidC (wo5.heap.size) (v1.heap.size) v1 (gap) ([5, 7]) (gcp)) := hGp.midc
  clear hB hb11 B7 B8 B9 L10 hVp hGp
  clear L16
  have n20 := lit_mid v1 3 [1, 2] 2 rfl
  simp only [List.map_cons, List.map_nil] at n20
  go_wp2_with fail
  obtain ⟨wo21, hwo21⟩ : ∃ wo21, wo21 = (v1.alloc (.cells #[.int .i64 1, .int .i64 2] 3)) := ⟨_, rfl⟩
  rw [← hwo21]
  have z22 : v1.heap.size + 1 ≤ wo21.heap.size := by rw [hwo21]; simp only [World.size_alloc]; omega
  have B23 : Hid (Abx wo21 (w.heap.size) (.bool true) (.slice sa1 sz1.length sc1) (.slice da1 dz1.length dc1)) := by rw [hwo21]; exact (B13.out.al (.cells #[.int .i64 1, .int .i64 2] 3))
  have B24 : Hid (Abx wo21 (w.heap.size + 1) (.bool c2) (.slice sa2 sz2.length sc2) (.slice da2 dz2.length dc2)) := by rw [hwo21]; exact (B14.out.al (.cells #[.int .i64 1, .int .i64 2] 3))
  have B25 : Hid (Abx wo21 (w.heap.size + 1 + 1) (.bool false) (.slice sa3 sz3.length sc3) (.slice da3 dz3.length dc3)) := by rw [hwo21]; exact (B15.out.al (.cells #[.int .i64 1, .int .i64 2] 3))
  have L26 : Hid (MidC (wo5.heap.size) (v1.heap.size) wo21 (vap) ([(2 : Int)]) (vcp)) := by rw [hwo21]; exact (L18.out.al (by omega) (.cells #[.int .i64 1, .int .i64 2] 3))
  have L27 : Hid (MidC (wo5.heap.size) (v1.heap.size) wo21 (gap) ([5, 7]) (gcp)) := by rw [hwo21]; exact (L19.out.al (by omega) (.cells #[.int .i64 1, .int .i64 2] 3))
  have L28 : Hid (MidC (v1.heap.size) (v1.heap.size + 1) wo21 (some ⟨v1.heap.size, 0, none⟩) ([1, 2]) (2)) := by rw [hwo21]; exact n20
  have hb29 : Hid (Below w.heap.size w wo21) := by rw [hwo21]; exact (hb17.out.alloc (by omega) (.cells #[.int .i64 1, .int .i64 2] 3))
  have zwo21 : w.heap.size ≤ wo21.heap.size := hb29.out.size
  clear hwo21 n20 hb17 B13 B14 B15 L18 L19
  refine (vec_c (some ⟨v1.heap.size, 0, none⟩) 2 [1, 2] (by simp) _ (L28.out.is (by omega)).1).mono ?_
  rintro e v2 ⟨vaq, vcq, gaq, gcq, rfl, hVq, hGq, hB⟩
  have z30 : wo21.heap.size ≤ v2.heap.size := hB.size
  have B31 : Hid (Abx v2 (w.heap.size) (.bool true) (.slice sa1 sz1.length sc1) (.slice da1 dz1.length dc1)) := B23.out.go hB
  have B32 : Hid (Abx v2 (w.heap.size + 1) (.bool c2) (.slice sa2 sz2.length sc2) (.slice da2 dz2.length dc2)) := B24.out.go hB
  have B33 : Hid (Abx v2 (w.heap.size + 1 + 1) (.bool false) (.slice sa3 sz3.length sc3) (.slice da3 dz3.length dc3)) := B25.out.go hB
  have L34 : Hid (MidC (wo5.heap.size) (v1.heap.size) v2 (vap) ([(2 : Int)]) (vcp)) := L26.out.go (by omega) hB
  have L35 : Hid (MidC (wo5.heap.size) (v1.heap.size) v2 (gap) ([5, 7]) (gcp)) := L27.out.go (by omega) hB
  have L36 : Hid (MidC (v1.heap.size) (v1.heap.size + 1) v2 (some ⟨v1.heap.size, 0, none⟩) ([1, 2]) (2)) := L28.out.go (by omega) hB
  have hb37 : Hid (Below w.heap.size w v2) := hb29.out.trans (hB.mono hb29.out.size)
  have L38 : Hid (MidC (wo21.heap.size) (v2.heap.size) v2 (vaq) ([(2 : Int)]) (vcq)) := hVq.midc
  have L39 : Hid (MidC (wo21.heap.size) (v2.heap.size) v2 (gaq) ([1, 2]) (gcq)) := hGq.midc
  clear hB hb29 B23 B24 B25 L26 L27 L28 hVq hGq
  clear L36
  go_wp2_with fail
  refine (otw_ok 2 false vap vcp [(2 : Int)] 1 rfl gap gcp [5, 7] 2 rfl false vaq vcq [(2 : Int)] 1 rfl gaq gcq [1, 2] 2 rfl _ (by unfold In64; decide) (by decide) (by decide) (L34.out.is (by omega)).1 (L35.out.is (by omega)).1 (lit12 (by decide)) (by decide) (by decide) (L38.out.is (by omega)).1 (L39.out.is (by omega)).1 (lit12 (by decide)) [2, 2] [4, 3, 6, 5] HOt (by show otE 2 false [2] [5, 7] false [2] [1, 2] = 0 ∧ [(2 : Int)] ++ [2] = [2, 2] ∧ otD 2 false [2] [5, 7] false [2] [1, 2] = [4, 3, 6, 5]; decide +kernel)).mono ?_
  rintro e v3 ⟨f1, g1, f2, g2, rfl, hX0, hY0, hB⟩
  have z40 : v2.heap.size ≤ v3.heap.size := hB.size
  have B41 : Hid (Abx v3 (w.heap.size) (.bool true) (.slice sa1 sz1.length sc1) (.slice da1 dz1.length dc1)) := B31.out.go hB
  have B42 : Hid (Abx v3 (w.heap.size + 1) (.bool c2) (.slice sa2 sz2.length sc2) (.slice da2 dz2.length dc2)) := B32.out.go hB
  have B43 : Hid (Abx v3 (w.heap.size + 1 + 1) (.bool false) (.slice sa3 sz3.length sc3) (.slice da3 dz3.length dc3)) := B33.out.go hB
  have L44 : Hid (MidC (wo5.heap.size) (v1.heap.size) v3 (vap) ([(2 : Int)]) (vcp)) := L34.out.go (by omega) hB
  have L45 : Hid (MidC (wo5.heap.size) (v1.heap.size) v3 (gap) ([5, 7]) (gcp)) := L35.out.go (by omega) hB
  have L46 : Hid (MidC (wo21.heap.size) (v2.heap.size) v3 (vaq) ([(2 : Int)]) (vcq)) := L38.out.go (by omega) hB
  have L47 : Hid (MidC (wo21.heap.size) (v2.heap.size) v3 (gaq) ([1, 2]) (gcq)) := L39.out.go (by omega) hB
  have hb48 : Hid (Below w.heap.size w v3) := hb37.out.trans (hB.mono hb37.out.size)
  have L49 : Hid (MidC (v2.heap.size) (v3.heap.size) v3 (f1) ([2, 2]) (g1)) := hX0.midc
  have L50 : Hid (MidC (v2.heap.size) (v3.heap.size) v3 (f2) ([4, 3, 6, 5]) (g2)) := hY0.midc
  clear hB hb37 B31 B32 B33 L34 L35 L38 L39 hX0 hY0
  clear L44 L45 L46 L47
  have n51 := Abx.new v3 (.bool false) (.slice f1 2 g1) (.slice f2 4 g2)
  have l52 := (n51).c0
  have l53 := (n51).c1
  have l54 := (n51).c2
  have n55 := lit_mid (v3.alloc (.cells #[.bool false, .slice f1 2 g1, .slice f2 4 g2] 24)) 3 [4, 3, 6, 5] 4 rfl
  simp only [World.size_alloc, List.map_cons, List.map_nil] at n55
  go_wp2_with fail
  obtain ⟨wo56, hwo56⟩ : ∃ wo56, wo56 = ((v3.alloc (.cells #[.bool false, .slice f1 2 g1, .slice f2 4 g2] 24)).alloc (.cells #[.int .i64 4, .int .i64 3, .int .i64 6, .int .i64 5] 3)) := ⟨_, rfl⟩
  rw [← hwo56]
  have z57 : v3.heap.size + 1 + 1 ≤ wo56.heap.size := by rw [hwo56]; simp only [World.size_alloc]; omega
  have B58 : Hid (Abx wo56 (w.heap.size) (.bool true) (.slice sa1 sz1.length sc1) (.slice da1 dz1.length dc1)) := by rw [hwo56]; exact ((B41.out.al (.cells #[.bool false, .slice f1 2 g1, .slice f2 4 g2] 24)).al (.cells #[.int .i64 4, .int .i64 3, .int .i64 6, .int .i64 5] 3))
  have B59 : Hid (Abx wo56 (w.heap.size + 1) (.bool c2) (.slice sa2 sz2.length sc2) (.slice da2 dz2.length dc2)) := by rw [hwo56]; exact ((B42.out.al (.cells #[.bool false, .slice f1 2 g1, .slice f2 4 g2] 24)).al (.cells #[.int .i64 4, .int .i64 3, .int .i64 6, .int .i64 5] 3))
  have B60 : Hid (Abx wo56 (w.heap.size + 1 + 1) (.bool false) (.slice sa3 sz3.length sc3) (.slice da3 dz3.length dc3)) := by rw [hwo56]; exact ((B43.out.al (.cells #[.bool false, .slice f1 2 g1, .slice f2 4 g2] 24)).al (.cells #[.int .i64 4, .int .i64 3, .int .i64 6, .int .i64 5] 3))
  have B61 : Hid (Abx wo56 (v3.heap.size) (.bool false) (.slice f1 2 g1) (.slice f2 4 g2)) := by rw [hwo56]; exact (n51.al (.cells #[.int .i64 4, .int .i64 3, .int .i64 6, .int .i64 5] 3))
  have L62 : Hid (MidC (v2.heap.size) (v3.heap.size) wo56 (f1) ([2, 2]) (g1)) := by rw [hwo56]; exact ((L49.out.al (by omega) (.cells #[.bool false, .slice f1 2 g1, .slice f2 4 g2] 24)).al (by simp only [World.size_alloc]; omega) (.cells #[.int .i64 4, .int .i64 3, .int .i64 6, .int .i64 5] 3))
  have L63 : Hid (MidC (v2.heap.size) (v3.heap.size) wo56 (f2) ([4, 3, 6, 5]) (g2)) := by rw [hwo56]; exact ((L50.out.al (by omega) (.cells #[.bool false, .slice f1 2 g1, .slice f2 4 g2] 24)).al (by simp only [World.size_alloc]; omega) (.cells #[.int .i64 4, .int .i64 3, .int .i64 6, .int .i64 5] 3))
  have L64 : Hid (MidC (v3.heap.size + 1) (v3.heap.size + 1 + 1) wo56 (some ⟨v3.heap.size + 1, 0, none⟩) ([4, 3, 6, 5]) (4)) := by rw [hwo56]; exact n55
  have hb65 : Hid (Below w.heap.size w wo56) := by rw [hwo56]; exact ((hb48.out.alloc (by omega) (.cells #[.bool false, .slice f1 2 g1, .slice f2 4 g2] 24)).alloc (by simp only [World.size_alloc]; omega) (.cells #[.int .i64 4, .int .i64 3, .int .i64 6, .int .i64 5] 3))
  have zwo56 : w.heap.size ≤ wo56.heap.size := hb65.out.size
  clear hwo56 n51 l52 l53 l54 n55 hb48 B41 B42 B43 L49 L50
  refine (ints_any f2 g2 [4, 3, 6, 5] (some ⟨v3.heap.size + 1, 0, none⟩) 4 [4, 3, 6, 5] (by simp) _ _ (L63.out.is (by omega)).1 (L64.out.is (by omega)).1).mono ?_
  rintro e v4 ⟨rfl, hB⟩
  have z66 : wo56.heap.size ≤ v4.heap.size := hB.size
  have B67 : Hid (Abx v4 (w.heap.size) (.bool true) (.slice sa1 sz1.length sc1) (.slice da1 dz1.length dc1)) := B58.out.go hB
  have B68 : Hid (Abx v4 (w.heap.size + 1) (.bool c2) (.slice sa2 sz2.length sc2) (.slice da2 dz2.length dc2)) := B59.out.go hB
  have B69 : Hid (Abx v4 (w.heap.size + 1 + 1) (.bool false) (.slice sa3 sz3.length sc3) (.slice da3 dz3.length dc3)) := B60.out.go hB
  have B70 : Hid (Abx v4 (v3.heap.size) (.bool false) (.slice f1 2 g1) (.slice f2 4 g2)) := B61.out.go hB
  have L71 : Hid (MidC (v2.heap.size) (v3.heap.size) v4 (f1) ([2, 2]) (g1)) := L62.out.go (by omega) hB
  have L72 : Hid (MidC (v2.heap.size) (v3.heap.size) v4 (f2) ([4, 3, 6, 5]) (g2)) := L63.out.go (by omega) hB
  have L73 : Hid (MidC (v3.heap.size + 1) (v3.heap.size + 1 + 1) v4 (some ⟨v3.heap.size + 1, 0, none⟩) ([4, 3, 6, 5]) (4)) := L64.out.go (by omega) hB
  have hb74 : Hid (Below w.heap.size w v4) := hb65.out.trans (hB.mono hb65.out.size)
  clear hB hb65 B58 B59 B60 B61 L62 L63 L64
  rw [eqB_true rfl]
  clear L71 L72 L73 B70
  have l75 := (B67.out).c0
  have l76 := (B67.out).c1
  have l77 := (B67.out).c2
  have l78 := (B68.out).c0
  have l79 := (B68.out).c1
  have l80 := (B68.out).c2
  go_wp2_with fail
  clear l75 l76 l77 l78 l79 l80
  refine (jn_ok 0 (by unfold In64; decide) true sa1 sc1 sz1 da1 dc1 dz1 c2 sa2 sc2 sz2 da2 dc2 dz2 _ x11 x12 ((HI1.out.1.below hb74.out).mono hb74.out.size) ((HI1.out.2.1.below hb74.out).mono hb74.out.size) HI1.out.2.2.2 x21 x22 ((HI2.out.1.below hb74.out).mono hb74.out.size) ((HI2.out.2.1.below hb74.out).mono hb74.out.size) HI2.out.2.2.2 S0 D0 HJn HJ.out).mono ?_
  rintro e v5 ⟨xa1, xc1, ya1, yc1, rfl, hX1, hY1, hB⟩
  have z81 : v4.heap.size ≤ v5.heap.size := hB.size
  have B82 : Hid (Abx v5 (w.heap.size) (.bool true) (.slice sa1 sz1.length sc1) (.slice da1 dz1.length dc1)) := B67.out.go hB
  have B83 : Hid (Abx v5 (w.heap.size + 1) (.bool c2) (.slice sa2 sz2.length sc2) (.slice da2 dz2.length dc2)) := B68.out.go hB
  have B84 : Hid (Abx v5 (w.heap.size + 1 + 1) (.bool false) (.slice sa3 sz3.length sc3) (.slice da3 dz3.length dc3)) := B69.out.go hB
  have hb85 : Hid (Below w.heap.size w v5) := hb74.out.trans (hB.mono hb74.out.size)
  have L86 : Hid (MidC (v4.heap.size) (v5.heap.size) v5 (xa1) (S0) (xc1)) := hX1.midc
  have L87 : Hid (MidC (v4.heap.size) (v5.heap.size) v5 (ya1) (D0) (yc1)) := hY1.midc
  clear hB hb74 B67 B68 B69 hX1 hY1
  have n88 := Abx.new v5 (.bool true) (.slice xa1 S0.length xc1) (.slice ya1 D0.length yc1)
  have l89 := (n88).c0
  have l90 := (n88).c1
  have l91 := (n88).c2
  have l92 := ((B84.out.al (.cells #[.bool true, .slice xa1 S0.length xc1, .slice ya1 D0.length yc1] 24))).c0
  have l93 := ((B84.out.al (.cells #[.bool true, .slice xa1 S0.length xc1, .slice ya1 D0.length yc1] 24))).c1
  have l94 := ((B84.out.al (.cells #[.bool true, .slice xa1 S0.length xc1, .slice ya1 D0.length yc1] 24))).c2
  go_wp2_with fail
  obtain ⟨wo95, hwo95⟩ : ∃ wo95, wo95 = (v5.alloc (.cells #[.bool true, .slice xa1 S0.length xc1, .slice ya1 D0.length yc1] 24)) := ⟨_, rfl⟩
  rw [← hwo95]
  have z96 : v5.heap.size + 1 ≤ wo95.heap.size := by rw [hwo95]; simp only [World.size_alloc]; omega
  have B97 : Hid (Abx wo95 (w.heap.size) (.bool true) (.slice sa1 sz1.length sc1) (.slice da1 dz1.length dc1)) := by rw [hwo95]; exact (B82.out.al (.cells #[.bool true, .slice xa1 S0.length xc1, .slice ya1 D0.length yc1] 24))
  have B98 : Hid (Abx wo95 (w.heap.size + 1) (.bool c2) (.slice sa2 sz2.length sc2) (.slice da2 dz2.length dc2)) := by rw [hwo95]; exact (B83.out.al (.cells #[.bool true, .slice xa1 S0.length xc1, .slice ya1 D0.length yc1] 24))
  have B99 : Hid (Abx wo95 (w.heap.size + 1 + 1) (.bool false) (.slice sa3 sz3.length sc3) (.slice da3 dz3.length dc3)) := by rw [hwo95]; exact (B84.out.al (.cells #[.bool true, .slice xa1 S0.length xc1, .slice ya1 D0.length yc1] 24))
  have B100 : Hid (Abx wo95 (v5.heap.size) (.bool true) (.slice xa1 S0.length xc1) (.slice ya1 D0.length yc1)) := by rw [hwo95]; exact n88
  have L101 : Hid (MidC (v4.heap.size) (v5.heap.size) wo95 (xa1) (S0) (xc1)) := by rw [hwo95]; exact (L86.out.al (by omega) (.cells #[.bool true, .slice xa1 S0.length xc1, .slice ya1 D0.length yc1] 24))
  have L102 : Hid (MidC (v4.heap.size) (v5.heap.size) wo95 (ya1) (D0) (yc1)) := by rw [hwo95]; exact (L87.out.al (by omega) (.cells #[.bool true, .slice xa1 S0.length xc1, .slice ya1 D0.length yc1] 24))
  have hb103 : Hid (Below w.heap.size w wo95) := by rw [hwo95]; exact (hb85.out.alloc (by omega) (.cells #[.bool true, .slice xa1 S0.length xc1, .slice ya1 D0.length yc1] 24))
  have zwo95 : w.heap.size ≤ wo95.heap.size := hb103.out.size
  clear hwo95 n88 l89 l90 l91 l92 l93 l94 hb85 B82 B83 B84 L86 L87
  refine (otw_ok f true xa1 xc1 S0 S0.length rfl ya1 yc1 D0 D0.length rfl false sa3 sc3 sz3 sz3.length rfl da3 dc3 dz3 dz3.length rfl _ hf (by omega) (by omega) (L101.out.is (by omega)).1 (L102.out.is (by omega)).1 HJT.out x31 x32 ((HI3.out.1.1.below hb103.out).mono hb103.out.size) ((HI3.out.2.1.1.below hb103.out).mono hb103.out.size) HI3.out.2.2.2 SY DY HOt HR1.out).mono ?_
  rintro e v6 ⟨xa2, xc2, ya2, yc2, rfl, hX2, hY2, hB⟩
  have z104 : wo95.heap.size ≤ v6.heap.size := hB.size
  have B105 : Hid (Abx v6 (w.heap.size) (.bool true) (.slice sa1 sz1.length sc1) (.slice da1 dz1.length dc1)) := B97.out.go hB
  have B106 : Hid (Abx v6 (w.heap.size + 1) (.bool c2) (.slice sa2 sz2.length sc2) (.slice da2 dz2.length dc2)) := B98.out.go hB
  have B107 : Hid (Abx v6 (w.heap.size + 1 + 1) (.bool false) (.slice sa3 sz3.length sc3) (.slice da3 dz3.length dc3)) := B99.out.go hB
  have B108 : Hid (Abx v6 (v5.heap.size) (.bool true) (.slice xa1 S0.length xc1) (.slice ya1 D0.length yc1)) := B100.out.go hB
  have L109 : Hid (MidC (v4.heap.size) (v5.heap.size) v6 (xa1) (S0) (xc1)) := L101.out.go (by omega) hB
  have L110 : Hid (MidC (v4.heap.size) (v5.heap.size) v6 (ya1) (D0) (yc1)) := L102.out.go (by omega) hB
  have hb111 : Hid (Below w.heap.size w v6) := hb103.out.trans (hB.mono hb103.out.size)
  have L112 : Hid (MidC (wo95.heap.size) (v6.heap.size) v6 (xa2) (SY) (xc2)) := hX2.midc
  have L113 : Hid (MidC (wo95.heap.size) (v6.heap.size) v6 (ya2) (DY) (yc2)) := hY2.midc
  clear hB hb103 B97 B98 B99 B100 L101 L102 hX2 hY2
  clear L109 L110 B108
  have n114 := Abx.new v6 (.bool false) (.slice xa2 SY.length xc2) (.slice ya2 DY.length yc2)
  have l115 := ((B105.out.al (.cells #[.bool false, .slice xa2 SY.length xc2, .slice ya2 DY.length yc2] 24))).c0
  have l116 := ((B105.out.al (.cells #[.bool false, .slice xa2 SY.length xc2, .slice ya2 DY.length yc2] 24))).c1
  have l117 := ((B105.out.al (.cells #[.bool false, .slice xa2 SY.length xc2, .slice ya2 DY.length yc2] 24))).c2
  have l118 := ((B107.out.al (.cells #[.bool false, .slice xa2 SY.length xc2, .slice ya2 DY.length yc2] 24))).c0
  have l119 := ((B107.out.al (.cells #[.bool false, .slice xa2 SY.length xc2, .slice ya2 DY.length yc2] 24))).c1
  have l120 := ((B107.out.al (.cells #[.bool false, .slice xa2 SY.length xc2, .slice ya2 DY.length yc2] 24))).c2
  go_wp2_with fail
  obtain ⟨wo121, hwo121⟩ : ∃ wo121, wo121 = (v6.alloc (.cells #[.bool false, .slice xa2 SY.length xc2, .slice ya2 DY.length yc2] 24)) := ⟨_, rfl⟩
  rw [← hwo121]
  have z122 : v6.heap.size + 1 ≤ wo121.heap.size := by rw [hwo121]; simp only [World.size_alloc]; omega
  have B123 : Hid (Abx wo121 (w.heap.size) (.bool true) (.slice sa1 sz1.length sc1) (.slice da1 dz1.length dc1)) := by rw [hwo121]; exact (B105.out.al (.cells #[.bool false, .slice xa2 SY.length xc2, .slice ya2 DY.length yc2] 24))
  have B124 : Hid (Abx wo121 (w.heap.size + 1) (.bool c2) (.slice sa2 sz2.length sc2) (.slice da2 dz2.length dc2)) := by rw [hwo121]; exact (B106.out.al (.cells #[.bool false, .slice xa2 SY.length xc2, .slice ya2 DY.length yc2] 24))
  have B125 : Hid (Abx wo121 (w.heap.size + 1 + 1) (.bool false) (.slice sa3 sz3.length sc3) (.slice da3 dz3.length dc3)) := by rw [hwo121]; exact (B107.out.al (.cells #[.bool false, .slice xa2 SY.length xc2, .slice ya2 DY.length yc2] 24))
  have B126 : Hid (Abx wo121 (v6.heap.size) (.bool false) (.slice xa2 SY.length xc2) (.slice ya2 DY.length yc2)) := by rw [hwo121]; exact n114
  have L127 : Hid (MidC (wo95.heap.size) (v6.heap.size) wo121 (xa2) (SY) (xc2)) := by rw [hwo121]; exact (L112.out.al (by omega) (.cells #[.bool false, .slice xa2 SY.length xc2, .slice ya2 DY.length yc2] 24))
  have L128 : Hid (MidC (wo95.heap.size) (v6.heap.size) wo121 (ya2) (DY) (yc2)) := by rw [hwo121]; exact (L113.out.al (by omega) (.cells #[.bool false, .slice xa2 SY.length xc2, .slice ya2 DY.length yc2] 24))
  have hb129 : Hid (Below w.heap.size w wo121) := by rw [hwo121]; exact (hb111.out.alloc (by omega) (.cells #[.bool false, .slice xa2 SY.length xc2, .slice ya2 DY.length yc2] 24))
  have zwo121 : w.heap.size ≤ wo121.heap.size := hb129.out.size
  clear hwo121 n114 l115 l116 l117 l118 l119 l120 hb111 B105 B106 B107 L112 L113
  refine (otw_ok f true sa1 sc1 sz1 sz1.length rfl da1 dc1 dz1 dz1.length rfl false sa3 sc3 sz3 sz3.length rfl da3 dc3 dz3 dz3.length rfl _ hf x11 x12 ((HI1.out.1.1.below hb129.out).mono hb129.out.size) ((HI1.out.2.1.1.below hb129.out).mono hb129.out.size) HI1.out.2.2.2 x31 x32 ((HI3.out.1.1.below hb129.out).mono hb129.out.size) ((HI3.out.2.1.1.below hb129.out).mono hb129.out.size) HI3.out.2.2.2 SP DP HOt HR2.out).mono ?_
  rintro e v7 ⟨xa3, xc3, ya3, yc3, rfl, hX3, hY3, hB⟩
  have z130 : wo121.heap.size ≤ v7.heap.size := hB.size
  have B131 : Hid (Abx v7 (w.heap.size) (.bool true) (.slice sa1 sz1.length sc1) (.slice da1 dz1.length dc1)) := B123.out.go hB
  have B132 : Hid (Abx v7 (w.heap.size + 1) (.bool c2) (.slice sa2 sz2.length sc2) (.slice da2 dz2.length dc2)) := B124.out.go hB
  have B133 : Hid (Abx v7 (w.heap.size + 1 + 1) (.bool false) (.slice sa3 sz3.length sc3) (.slice da3 dz3.length dc3)) := B125.out.go hB
  have B134 : Hid (Abx v7 (v6.heap.size) (.bool false) (.slice xa2 SY.length xc2) (.slice ya2 DY.length yc2)) := B126.out.go hB
  have L135 : Hid (MidC (wo95.heap.size) (v6.heap.size) v7 (xa2) (SY) (xc2)) := L127.out.go (by omega) hB
  have L136 : Hid (MidC (wo95.heap.size) (v6.heap.size) v7 (ya2) (DY) (yc2)) := L128.out.go (by omega) hB
  have hb137 : Hid (Below w.heap.size w v7) := hb129.out.trans (hB.mono hb129.out.size)
  have L138 : Hid (MidC (wo121.heap.size) (v7.heap.size) v7 (xa3) (SP) (xc3)) := hX3.midc
  have L139 : Hid (MidC (wo121.heap.size) (v7.heap.size) v7 (ya3) (DP) (yc3)) := hY3.midc
  clear hB hb129 B123 B124 B125 B126 L127 L128 hX3 hY3
  have n140 := Abx.new v7 (.bool false) (.slice xa3 SP.length xc3) (.slice ya3 DP.length yc3)
  have l141 := ((B132.out.al (.cells #[.bool false, .slice xa3 SP.length xc3, .slice ya3 DP.length yc3] 24))).c0
  have l142 := ((B132.out.al (.cells #[.bool false, .slice xa3 SP.length xc3, .slice ya3 DP.length yc3] 24))).c1
  have l143 := ((B132.out.al (.cells #[.bool false, .slice xa3 SP.length xc3, .slice ya3 DP.length yc3] 24))).c2
  have l144 := ((B133.out.al (.cells #[.bool false, .slice xa3 SP.length xc3, .slice ya3 DP.length yc3] 24))).c0
  have l145 := ((B133.out.al (.cells #[.bool false, .slice xa3 SP.length xc3, .slice ya3 DP.length yc3] 24))).c1
  have l146 := ((B133.out.al (.cells #[.bool false, .slice xa3 SP.length xc3, .slice ya3 DP.length yc3] 24))).c2
  go_wp2_with fail
  obtain ⟨wo147, hwo147⟩ : ∃ wo147, wo147 = (v7.alloc (.cells #[.bool false, .slice xa3 SP.length xc3, .slice ya3 DP.length yc3] 24)) := ⟨_, rfl⟩
  rw [← hwo147]
  have z148 : v7.heap.size + 1 ≤ wo147.heap.size := by rw [hwo147]; simp only [World.size_alloc]; omega
  have B149 : Hid (Abx wo147 (w.heap.size) (.bool true) (.slice sa1 sz1.length sc1) (.slice da1 dz1.length dc1)) := by rw [hwo147]; exact (B131.out.al (.cells #[.bool false, .slice xa3 SP.length xc3, .slice ya3 DP.length yc3] 24))
  have B150 : Hid (Abx wo147 (w.heap.size + 1) (.bool c2) (.slice sa2 sz2.length sc2) (.slice da2 dz2.length dc2)) := by rw [hwo147]; exact (B132.out.al (.cells #[.bool false, .slice xa3 SP.length xc3, .slice ya3 DP.length yc3] 24))
  have B151 : Hid (Abx wo147 (w.heap.size + 1 + 1) (.bool false) (.slice sa3 sz3.length sc3) (.slice da3 dz3.length dc3)) := by rw [hwo147]; exact (B133.out.al (.cells #[.bool false, .slice xa3 SP.length xc3, .slice ya3 DP.length yc3] 24))
  have B152 : Hid (Abx wo147 (v6.heap.size) (.bool false) (.slice xa2 SY.length xc2) (.slice ya2 DY.length yc2)) := by rw [hwo147]; exact (B134.out.al (.cells #[.bool false, .slice xa3 SP.length xc3, .slice ya3 DP.length yc3] 24))
  have B153 : Hid (Abx wo147 (v7.heap.size) (.bool false) (.slice xa3 SP.length xc3) (.slice ya3 DP.length yc3)) := by rw [hwo147]; exact n140
  have L154 : Hid (MidC (wo95.heap.size) (v6.heap.size) wo147 (xa2) (SY) (xc2)) := by rw [hwo147]; exact (L135.out.al (by omega) (.cells #[.bool false, .slice xa3 SP.length xc3, .slice ya3 DP.length yc3] 24))
  have L155 : Hid (MidC (wo95.heap.size) (v6.heap.size) wo147 (ya2) (DY) (yc2)) := by rw [hwo147]; exact (L136.out.al (by omega) (.cells #[.bool false, .slice xa3 SP.length xc3, .slice ya3 DP.length yc3] 24))
  have L156 : Hid (MidC (wo121.heap.size) (v7.heap.size) wo147 (xa3) (SP) (xc3)) := by rw [hwo147]; exact (L138.out.al (by omega) (.cells #[.bool false, .slice xa3 SP.length xc3, .slice ya3 DP.length yc3] 24))
  have L157 : Hid (MidC (wo121.heap.size) (v7.heap.size) wo147 (ya3) (DP) (yc3)) := by rw [hwo147]; exact (L139.out.al (by omega) (.cells #[.bool false, .slice xa3 SP.length xc3, .slice ya3 DP.length yc3] 24))
  have hb158 : Hid (Below w.heap.size w wo147) := by rw [hwo147]; exact (hb137.out.alloc (by omega) (.cells #[.bool false, .slice xa3 SP.length xc3, .slice ya3 DP.length yc3] 24))
  have zwo147 : w.heap.size ≤ wo147.heap.size := hb158.out.size
  clear hwo147 n140 l141 l142 l143 l144 l145 l146 hb137 B131 B132 B133 B134 L135 L136 L138 L139
  refine (otw_ok f c2 sa2 sc2 sz2 sz2.length rfl da2 dc2 dz2 dz2.length rfl false sa3 sc3 sz3 sz3.length rfl da3 dc3 dz3 dz3.length rfl _ hf x21 x22 ((HI2.out.1.1.below hb158.out).mono hb158.out.size) ((HI2.out.2.1.1.below hb158.out).mono hb158.out.size) HI2.out.2.2.2 x31 x32 ((HI3.out.1.1.below hb158.out).mono hb158.out.size) ((HI3.out.2.1.1.below hb158.out).mono hb158.out.size) HI3.out.2.2.2 SQ DQ HOt HR3.out).mono ?_
  rintro e v8 ⟨xa4, xc4, ya4, yc4, rfl, hX4, hY4, hB⟩
  have z159 : wo147.heap.size ≤ v8.heap.size := hB.size
  have B160 : Hid (Abx v8 (w.heap.size) (.bool true) (.slice sa1 sz1.length sc1) (.slice da1 dz1.length dc1)) := B149.out.go hB
  have B161 : Hid (Abx v8 (w.heap.size + 1) (.bool c2) (.slice sa2 sz2.length sc2) (.slice da2 dz2.length dc2)) := B150.out.go hB
  have B162 : Hid (Abx v8 (w.heap.size + 1 + 1) (.bool false) (.slice sa3 sz3.length sc3) (.slice da3 dz3.length dc3)) := B151.out.go hB
  have B163 : Hid (Abx v8 (v6.heap.size) (.bool false) (.slice xa2 SY.length xc2) (.slice ya2 DY.length yc2)) := B152.out.go hB
  have B164 : Hid (Abx v8 (v7.heap.size) (.bool false) (.slice xa3 SP.length xc3) (.slice ya3 DP.length yc3)) := B153.out.go hB
  have L165 : Hid (MidC (wo95.heap.size) (v6.heap.size) v8 (xa2) (SY) (xc2)) := L154.out.go (by omega) hB
  have L166 : Hid (MidC (wo95.heap.size) (v6.heap.size) v8 (ya2) (DY) (yc2)) := L155.out.go (by omega) hB
  have L167 : Hid (MidC (wo121.heap.size) (v7.heap.size) v8 (xa3) (SP) (xc3)) := L156.out.go (by omega) hB
  have L168 : Hid (MidC (wo121.heap.size) (v7.heap.size) v8 (ya3) (DP) (yc3)) := L157.out.go (by omega) hB
  have hb169 : Hid (Below w.heap.size w v8) := hb158.out.trans (hB.mono hb158.out.size)
  have L170 : Hid (MidC (wo147.heap.size) (v8.heap.size) v8 (xa4) (SQ) (xc4)) := hX4.midc
  have L171 : Hid (MidC (wo147.heap.size) (v8.heap.size) v8 (ya4) (DQ) (yc4)) := hY4.midc
  clear hB hb158 B149 B150 B151 B152 B153 L154 L155 L156 L157 hX4 hY4
  have n172 := Abx.new v8 (.bool false) (.slice xa4 SQ.length xc4) (.slice ya4 DQ.length yc4)
  have l173 := ((B164.out.al (.cells #[.bool false, .slice xa4 SQ.length xc4, .slice ya4 DQ.length yc4] 24))).c0
  have l174 := ((B164.out.al (.cells #[.bool false, .slice xa4 SQ.length xc4, .slice ya4 DQ.length yc4] 24))).c1
  have l175 := ((B164.out.al (.cells #[.bool false, .slice xa4 SQ.length xc4, .slice ya4 DQ.length yc4] 24))).c2
  have l176 := (n172).c0
  have l177 := (n172).c1
  have l178 := (n172).c2
  go_wp2_with fail
  obtain ⟨wo179, hwo179⟩ : ∃ wo179, wo179 = (v8.alloc (.cells #[.bool false, .slice xa4 SQ.length xc4, .slice ya4 DQ.length yc4] 24)) := ⟨_, rfl⟩
  rw [← hwo179]
  have z180 : v8.heap.size + 1 ≤ wo179.heap.size := by rw [hwo179]; simp only [World.size_alloc]; omega
  have B181 : Hid (Abx wo179 (w.heap.size) (.bool true) (.slice sa1 sz1.length sc1) (.slice da1 dz1.length dc1)) := by rw [hwo179]; exact (B160.out.al (.cells #[.bool false, .slice xa4 SQ.length xc4, .slice ya4 DQ.length yc4] 24))
  have B182 : Hid (Abx wo179 (w.heap.size + 1) (.bool c2) (.slice sa2 sz2.length sc2) (.slice da2 dz2.length dc2)) := by rw [hwo179]; exact (B161.out.al (.cells #[.bool false, .slice xa4 SQ.length xc4, .slice ya4 DQ.length yc4] 24))
  have B183 : Hid (Abx wo179 (w.heap.size + 1 + 1) (.bool false) (.slice sa3 sz3.length sc3) (.slice da3 dz3.length dc3)) := by rw [hwo179]; exact (B162.out.al (.cells #[.bool false, .slice xa4 SQ.length xc4, .slice ya4 DQ.length yc4] 24))
  have B184 : Hid (Abx wo179 (v6.heap.size) (.bool false) (.slice xa2 SY.length xc2) (.slice ya2 DY.length yc2)) := by rw [hwo179]; exact (B163.out.al (.cells #[.bool false, .slice xa4 SQ.length xc4, .slice ya4 DQ.length yc4] 24))
  have B185 : Hid (Abx wo179 (v7.heap.size) (.bool false) (.slice xa3 SP.length xc3) (.slice ya3 DP.length yc3)) := by rw [hwo179]; exact (B164.out.al (.cells #[.bool false, .slice xa4 SQ.length xc4, .slice ya4 DQ.length yc4] 24))
  have B186 : Hid (Abx wo179 (v8.heap.size) (.bool false) (.slice xa4 SQ.length xc4) (.slice ya4 DQ.length yc4)) := by rw [hwo179]; exact n172
  have L187 : Hid (MidC (wo95.heap.size) (v6.heap.size) wo179 (xa2) (SY) (xc2)) := by rw [hwo179]; exact (L165.out.al (by omega) (.cells #[.bool false, .slice xa4 SQ.length xc4, .slice ya4 DQ.length yc4] 24))
  have L188 : Hid (MidC (wo95.heap.size) (v6.heap.size) wo179 (ya2) (DY) (yc2)) := by rw [hwo179]; exact (L166.out.al (by omega) (.cells #[.bool false, .slice xa4 SQ.length xc4, .slice ya4 DQ.length yc4] 24))
  have L189 : Hid (MidC (wo121.heap.size) (v7.heap.size) wo179 (xa3) (SP) (xc3)) := by rw [hwo179]; exact (L167.out.al (by omega) (.cells #[.bool false, .slice xa4 SQ.length xc4, .slice ya4 DQ.length yc4] 24))
  have L190 : Hid (MidC (wo121.heap.size) (v7.heap.size) wo179 (ya3) (DP) (yc3)) := by rw [hwo179]; exact (L168.out.al (by omega) (.cells #[.bool false, .slice xa4 SQ.length xc4, .slice ya4 DQ.length yc4] 24))
  have L191 : Hid (MidC (wo147.heap.size) (v8.heap.size) wo179 (xa4) (SQ) (xc4)) := by rw [hwo179]; exact (L170.out.al (by omega) (.cells #[.bool false, .slice xa4 SQ.length xc4, .slice ya4 DQ.length yc4] 24))
  have L192 : Hid (MidC (wo147.heap.size) (v8.heap.size) wo179 (ya4) (DQ) (yc4)) := by rw [hwo179]; exact (L171.out.al (by omega) (.cells #[.bool false, .slice xa4 SQ.length xc4, .slice ya4 DQ.length yc4] 24))
  have hb193 : Hid (Below w.heap.size w wo179) := by rw [hwo179]; exact (hb169.out.alloc (by omega) (.cells #[.bool false, .slice xa4 SQ.length xc4, .slice ya4 DQ.length yc4] 24))
  have zwo179 : w.heap.size ≤ wo179.heap.size := hb193.out.size
  clear hwo179 n172 l173 l174 l175 l176 l177 l178 hb169 B160 B161 B162 B163 B164 L165 L166 L167 L168 L170 L171
  refine (jn_ok 0 (by unfold In64; decide) false xa3 xc3 SP ya3 yc3 DP false xa4 xc4 SQ ya4 yc4 DQ _ (by omega) (by omega) (L189.out.is (by omega)) (L190.out.is (by omega)) HTT.out.1 (by omega) (by omega) (L191.out.is (by omega)) (L192.out.is (by omega)) HTT.out.2 SY DY HJn HR4.out).mono ?_
  rintro e v9 ⟨xa5, xc5, ya5, yc5, rfl, hX5, hY5, hB⟩
  have z194 : wo179.heap.size ≤ v9.heap.size := hB.size
  have B195 : Hid (Abx v9 (w.heap.size) (.bool true) (.slice sa1 sz1.length sc1) (.slice da1 dz1.length dc1)) := B181.out.go hB
  have B196 : Hid (Abx v9 (w.heap.size + 1) (.bool c2) (.slice sa2 sz2.length sc2) (.slice da2 dz2.length dc2)) := B182.out.go hB
  have B197 : Hid (Abx v9 (w.heap.size + 1 + 1) (.bool false) (.slice sa3 sz3.length sc3) (.slice da3 dz3.length dc3)) := B183.out.go hB
  have B198 : Hid (Abx v9 (v6.heap.size) (.bool false) (.slice xa2 SY.length xc2) (.slice ya2 DY.length yc2)) := B184.out.go hB
  have B199 : Hid (Abx v9 (v7.heap.size) (.bool false) (.slice xa3 SP.length xc3) (.slice ya3 DP.length yc3)) := B185.out.go hB
  have B200 : Hid (Abx v9 (v8.heap.size) (.bool false) (.slice xa4 SQ.length xc4) (.slice ya4 DQ.length yc4)) := B186.out.go hB
  have L201 : Hid (MidC (wo95.heap.size) (v6.heap.size) v9 (xa2) (SY) (xc2)) := L187.out.go (by omega) hB
  have L202 : Hid (MidC (wo95.heap.size) (v6.heap.size) v9 (ya2) (DY) (yc2)) := L188.out.go (by omega) hB
  have L203 : Hid (MidC (wo121.heap.size) (v7.heap.size) v9 (xa3) (SP) (xc3)) := L189.out.go (by omega) hB
  have L204 : Hid (MidC (wo121.heap.size) (v7.heap.size) v9 (ya3) (DP) (yc3)) := L190.out.go (by omega) hB
  have L205 : Hid (MidC (wo147.heap.size) (v8.heap.size) v9 (xa4) (SQ) (xc4)) := L191.out.go (by omega) hB
  have L206 : Hid (MidC (wo147.heap.size) (v8.heap.size) v9 (ya4) (DQ) (yc4)) := L192.out.go (by omega) hB
  have hb207 : Hid (Below w.heap.size w v9) := hb193.out.trans (hB.mono hb193.out.size)
  have L208 : Hid (MidC (wo179.heap.size) (v9.heap.size) v9 (xa5) (SY) (xc5)) := hX5.midc
  have L209 : Hid (MidC (wo179.heap.size) (v9.heap.size) v9 (ya5) (DY) (yc5)) := hY5.midc
  clear hB hb193 B181 B182 B183 B184 B185 B186 L187 L188 L189 L190 L191 L192 hX5 hY5
  clear L203 L204 L205 L206 B199 B200
  have n210 := Abx.new v9 (.bool false) (.slice xa5 SY.length xc5) (.slice ya5 DY.length yc5)
  have l211 := ((B198.out.al (.cells #[.bool false, .slice xa5 SY.length xc5, .slice ya5 DY.length yc5] 24))).c0
  have l212 := ((B198.out.al (.cells #[.bool false, .slice xa5 SY.length xc5, .slice ya5 DY.length yc5] 24))).c1
  have l213 := ((B198.out.al (.cells #[.bool false, .slice xa5 SY.length xc5, .slice ya5 DY.length yc5] 24))).c2
  have l214 := (n210).c0
  have l215 := (n210).c1
  have l216 := (n210).c2
  go_wp2_with fail
  obtain ⟨wo217, hwo217⟩ : ∃ wo217, wo217 = (v9.alloc (.cells #[.bool false, .slice xa5 SY.length xc5, .slice ya5 DY.length yc5] 24)) := ⟨_, rfl⟩
  rw [← hwo217]
  have z218 : v9.heap.size + 1 ≤ wo217.heap.size := by rw [hwo217]; simp only [World.size_alloc]; omega
  have B219 : Hid (Abx wo217 (w.heap.size) (.bool true) (.slice sa1 sz1.length sc1) (.slice da1 dz1.length dc1)) := by rw [hwo217]; exact (B195.out.al (.cells #[.bool false, .slice xa5 SY.length xc5, .slice ya5 DY.length yc5] 24))
  have B220 : Hid (Abx wo217 (w.heap.size + 1) (.bool c2) (.slice sa2 sz2.length sc2) (.slice da2 dz2.length dc2)) := by rw [hwo217]; exact (B196.out.al (.cells #[.bool false, .slice xa5 SY.length xc5, .slice ya5 DY.length yc5] 24))
  have B221 : Hid (Abx wo217 (w.heap.size + 1 + 1) (.bool false) (.slice sa3 sz3.length sc3) (.slice da3 dz3.length dc3)) := by rw [hwo217]; exact (B197.out.al (.cells #[.bool false, .slice xa5 SY.length xc5, .slice ya5 DY.length yc5] 24))
  have B222 : Hid (Abx wo217 (v6.heap.size) (.bool false) (.slice xa2 SY.length xc2) (.slice ya2 DY.length yc2)) := by rw [hwo217]; exact (B198.out.al (.cells #[.bool false, .slice xa5 SY.length xc5, .slice ya5 DY.length yc5] 24))
  have B223 : Hid (Abx wo217 (v9.heap.size) (.bool false) (.slice xa5 SY.length xc5) (.slice ya5 DY.length yc5)) := by rw [hwo217]; exact n210
  have L224 : Hid (MidC (wo95.heap.size) (v6.heap.size) wo217 (xa2) (SY) (xc2)) := by rw [hwo217]; exact (L201.out.al (by omega) (.cells #[.bool false, .slice xa5 SY.length xc5, .slice ya5 DY.length yc5] 24))
  have L225 : Hid (MidC (wo95.heap.size) (v6.heap.size) wo217 (ya2) (DY) (yc2)) := by rw [hwo217]; exact (L202.out.al (by omega) (.cells #[.bool false, .slice xa5 SY.length xc5, .slice ya5 DY.length yc5] 24))
  have L226 : Hid (MidC (wo179.heap.size) (v9.heap.size) wo217 (xa5) (SY) (xc5)) := by rw [hwo217]; exact (L208.out.al (by omega) (.cells #[.bool false, .slice xa5 SY.length xc5, .slice ya5 DY.length yc5] 24))
  have L227 : Hid (MidC (wo179.heap.size) (v9.heap.size) wo217 (ya5) (DY) (yc5)) := by rw [hwo217]; exact (L209.out.al (by omega) (.cells #[.bool false, .slice xa5 SY.length xc5, .slice ya5 DY.length yc5] 24))
  have hb228 : Hid (Below w.heap.size w wo217) := by rw [hwo217]; exact (hb207.out.alloc (by omega) (.cells #[.bool false, .slice xa5 SY.length xc5, .slice ya5 DY.length yc5] 24))
  have zwo217 : w.heap.size ≤ wo217.heap.size := hb228.out.size
  clear hwo217 n210 l211 l212 l213 l214 l215 l216 hb207 B195 B196 B197 B198 L201 L202 L208 L209
  refine (alike_eq false xa2 xc2 SY ya2 yc2 DY xa5 xc5 SY ya5 yc5 DY rfl rfl (by omega) (by omega) _ (L224.out.is (by omega)) (L225.out.is (by omega)).1 (L226.out.is (by omega)) (L227.out.is (by omega)).1).mono ?_
  rintro e v10 ⟨rfl, hB⟩
  have z229 : wo217.heap.size ≤ v10.heap.size := hB.size
  have B230 : Hid (Abx v10 (w.heap.size) (.bool true) (.slice sa1 sz1.length sc1) (.slice da1 dz1.length dc1)) := B219.out.go hB
  have B231 : Hid (Abx v10 (w.heap.size + 1) (.bool c2) (.slice sa2 sz2.length sc2) (.slice da2 dz2.length dc2)) := B220.out.go hB
  have B232 : Hid (Abx v10 (w.heap.size + 1 + 1) (.bool false) (.slice sa3 sz3.length sc3) (.slice da3 dz3.length dc3)) := B221.out.go hB
  have B233 : Hid (Abx v10 (v6.heap.size) (.bool false) (.slice xa2 SY.length xc2) (.slice ya2 DY.length yc2)) := B222.out.go hB
  have B234 : Hid (Abx v10 (v9.heap.size) (.bool false) (.slice xa5 SY.length xc5) (.slice ya5 DY.length yc5)) := B223.out.go hB
  have L235 : Hid (MidC (wo95.heap.size) (v6.heap.size) v10 (xa2) (SY) (xc2)) := L224.out.go (by omega) hB
  have L236 : Hid (MidC (wo95.heap.size) (v6.heap.size) v10 (ya2) (DY) (yc2)) := L225.out.go (by omega) hB
  have L237 : Hid (MidC (wo179.heap.size) (v9.heap.size) v10 (xa5) (SY) (xc5)) := L226.out.go (by omega) hB
  have L238 : Hid (MidC (wo179.heap.size) (v9.heap.size) v10 (ya5) (DY) (yc5)) := L227.out.go (by omega) hB
  have hb239 : Hid (Below w.heap.size w v10) := hb228.out.trans (hB.mono hb228.out.size)
  clear hB hb228 B219 B220 B221 B222 B223 L224 L225 L226 L227
  clear L235 L236 L237 L238 B233 B234
  have l0 := B232.out.c0
  have l1 := B230.out.c0
  have l2 := B230.out.c1
  have l3 := B232.out.c1
  go_wp2_with fail
  go_ret
  exact ⟨rfl, hb239.out⟩
set_option maxRecDepth 100000 in
set_option maxHeartbeats 8000000 in
theorem parts_l1 (HOt : COt) (HJn : CJn) (HRd : CRd) (H2 : C2d) (f : Int) (hf : In64 f) (c1 : Bool) (sa1 : Option Addr) (sc1 : Nat) (sz1 : List Int) (da1 : Option Addr) (dc1 : Nat) (dz1 : List Int) (c2 : Bool) (sa2 : Option Addr) (sc2 : Nat) (sz2 : List Int) (da2 : Option Addr) (dc2 : Nat) (dz2 : List Int) (c3 : Bool) (sa3 : Option Addr) (sc3 : Nat) (sz3 : List Int) (da3 : Option Addr) (dc3 : Nat) (dz3 : List Int) (w : World) (w8 : IsArrD w sa1 sz1 sc1 da1 dz1 dc1) (w9 : IsArrD w sa2 sz2 sc2 da2 dz2 dc2) (w10 : IsArrD w sa3 sz3 sc3 da3 dz3 dc3) (J : Hid (jnE 0 c1 sz1 dz1 c2 sz2 dz2 = 0)) (O : ∀ S0 D0, jnS (0 : Int).toNat sz1 sz2 = S0 → jnD (0 : Int).toNat sz1 dz1 sz2 dz2 = D0 → otE f c1 S0 D0 c3 sz3 dz3 = 0) (hc3 : c3 = false) (hc1 : c1 = false) (F1 : Hid (sz1.length ≠ 1)) :
    Calls Try.prog 4 #[.int .i64 f, .agg #[.bool c1, .slice sa1 sz1.length sc1, .slice da1 dz1.length dc1], .agg #[.bool c2, .slice sa2 sz2.length sc2, .slice da2 dz2.length dc2], .agg #[.bool c3, .slice sa3 sz3.length sc3, .slice da3 dz3.length dc3]] w fun e w' => e = .returned (.bool true) ∧ Below w.heap.size w w' := by
  subst hc3
  subst hc1
  have t1 : ((sz1.length : Int) != 1) = true := by have := F1.out; simp; omega
  obtain ⟨S0, hS0⟩ : ∃ S0, jnS (0 : Int).toNat sz1 sz2 = S0 := ⟨_, rfl⟩
  obtain ⟨D0, hD0⟩ : ∃ D0, jnD (0 : Int).toNat sz1 dz1 sz2 dz2 = D0 := ⟨_, rfl⟩
  have HJ : Hid (jnE 0 false sz1 dz1 c2 sz2 dz2 = 0 ∧ jnS (0 : Int).toNat sz1 sz2 = S0 ∧ jnD (0 : Int).toNat sz1 dz1 sz2 dz2 = D0) := ⟨J.out, hS0, hD0⟩
  have HJT : Hid (∀ j, In64 (nth D0 j)) := by rw [← hD0]; exact jn_64 J.out w8.2.2.2.2.2 w9.2.2.2.2.2
  have LJ : S0.length ≤ 4096 ∧ D0.length ≤ 4096 := by rw [← hS0, ← hD0]; exact jn_short13 J.out
  obtain ⟨SY, DY, SP, DP, SQ, DQ, R1, R2, R3, R4, TT, L1, L2, L3⟩ := parts13 J.out hS0 hD0 (O _ _ hS0 hD0) w8.2.2.2.2.2 w9.2.2.2.2.2 w10.2.2.2.2.2
  have HR1 : Hid (_) := R1
  have HR2 : Hid (_) := R2
  have HR3 : Hid (_) := R3
  have HR4 : Hid (_) := R4
  have HTT : Hid (_) := TT
  clear R1 R2 R3 R4 TT O hS0 hD0
  obtain ⟨x11, x12, x3, x4, s64, T⟩ := w8
  have HI1 : Hid (IsC w.heap.size w sa1 sz1 sc1 ∧ IsC w.heap.size w da1 dz1 dc1 ∧ (∀ j, In64 (nth sz1 j)) ∧ ∀ j, In64 (nth dz1 j)) := ⟨x3, x4, s64, T⟩
  clear x3 x4 T s64
  obtain ⟨x21, x22, x3, x4, s64, T⟩ := w9
  have HI2 : Hid (IsC w.heap.size w sa2 sz2 sc2 ∧ IsC w.heap.size w da2 dz2 dc2 ∧ (∀ j, In64 (nth sz2 j)) ∧ ∀ j, In64 (nth dz2 j)) := ⟨x3, x4, s64, T⟩
  clear x3 x4 T s64
  obtain ⟨x31, x32, x3, x4, s64, T⟩ := w10
  have HI3 : Hid (IsC w.heap.size w sa3 sz3 sc3 ∧ IsC w.heap.size w da3 dz3 dc3 ∧ (∀ j, In64 (nth sz3 j)) ∧ ∀ j, In64 (nth dz3 j)) := ⟨x3, x4, s64, T⟩
  clear x3 x4 T s64
  have n1 := Abx.new w (.bool false) (.slice sa1 sz1.length sc1) (.slice da1 dz1.length dc1)
  have n2 := Abx.new (w.alloc (.cells #[.bool false, .slice sa1 sz1.length sc1, .slice da1 dz1.length dc1] 24)) (.bool c2) (.slice sa2 sz2.length sc2) (.slice da2 dz2.length dc2)
  simp only [World.size_alloc] at n2
  have n3 := Abx.new ((w.alloc (.cells #[.bool false, .slice sa1 sz1.length sc1, .slice da1 dz1.length dc1] 24)).alloc (.cells #[.bool c2, .slice sa2 sz2.length sc2, .slice da2 dz2.length dc2] 24)) (.bool false) (.slice sa3 sz3.length sc3) (.slice da3 dz3.length dc3)
  simp only [World.size_alloc] at n3
  have n4 := lit_mid (((w.alloc (.cells #[.bool false, .slice sa1 sz1.length sc1, .slice da1 dz1.length dc1] 24)).alloc (.cells #[.bool c2, .slice sa2 sz2.length sc2, .slice da2 dz2.length dc2] 24)).alloc (.cells #[.bool false, .slice sa3 sz3.length sc3, .slice da3 dz3.length dc3] 24)) 3 [5, 7] 2 rfl
  simp only [World.size_alloc, List.map_cons, List.map_nil] at n4
  go_enter Try.func4, Try.ntmps4
  go_wp2_with fail
  obtain ⟨wo5, hwo5⟩ : ∃ wo5, wo5 = ((((w.alloc (.cells #[.bool false, .slice sa1 sz1.length sc1, .slice da1 dz1.length dc1] 24)).alloc (.cells #[.bool c2, .slice sa2 sz2.length sc2, .slice da2 dz2.length dc2] 24)).alloc (.cells #[.bool false, .slice sa3 sz3.length sc3, .slice da3 dz3.length dc3] 24)).alloc (.cells #[.int .i64 5, .int .i64 7] 3)) := ⟨_, rfl⟩
  rw [← hwo5]
  have z6 : w.heap.size + 1 + 1 + 1 + 1 ≤ wo5.heap.size := by rw [hwo5]; simp only [World.size_alloc]; omega
  have B7 : Hid (Abx wo5 (w.heap.size) (.bool false) (.slice sa1 sz1.length sc1) (.slice da1 dz1.length dc1)) := by rw [hwo5]; exact (((n1.al (.cells #[.bool c2, .slice sa2 sz2.length sc2, .slice da2 dz2.length dc2] 24)).al (.cells #[.bool false, .slice sa3 sz3.length sc3, .slice da3 dz3.length dc3] 24)).al (.cells #[.int .i64 5, .int .i64 7] 3))
  have B8 : Hid (Abx wo5 (w.heap.size + 1) (.bool c2) (.slice sa2 sz2.length sc2) (.slice da2 dz2.length dc2)) := by rw [hwo5]; exact ((n2.al (.cells #[.bool false, .slice sa3 sz3.length sc3, .slice da3 dz3.length dc3] 24)).al (.cells #[.int .i64 5, .int .i64 7] 3))
  have B9 : Hid (Abx wo5 (w.heap.size + 1 + 1) (.bool false) (.slice sa3 sz3.length sc3) (.slice da3 dz3.length dc3)) := by rw [hwo5]; exact (n3.al (.cells #[.int .i64 5, .int .i64 7] 3))
  have L10 : Hid (MidC (w.heap.size + 1 + 1 + 1) (w.heap.size + 1 + 1 + 1 + 1) wo5 (some ⟨w.heap.size + 1 + 1 + 1, 0, none⟩) ([5, 7]) (2)) := by rw [hwo5]; exact n4
  have hb11 : Hid (Below w.heap.size w wo5) := by rw [hwo5]; exact (((((Below.refl w.heap.size w).alloc (by omega) (.cells #[.bool false, .slice sa1 sz1.length sc1, .slice da1 dz1.length dc1] 24)).alloc (by simp only [World.size_alloc]; omega) (.cells #[.bool c2, .slice sa2 sz2.length sc2, .slice da2 dz2.length dc2] 24)).alloc (by simp only [World.size_alloc]; omega) (.cells #[.bool false, .slice sa3 sz3.length sc3, .slice da3 dz3.length dc3] 24)).alloc (by simp only [World.size_alloc]; omega) (.cells #[.int .i64 5, .int .i64 7] 3))
  have zwo5 : w.heap.size ≤ wo5.heap.size := hb11.out.size
  clear hwo5 n1 n2 n3 n4
  refine (vec_c (some ⟨w.heap.size + 1 + 1 + 1, 0, none⟩) 2 [5, 7] (by simp) _ (L10.out.is (by omega)).1).mono ?_
  rintro e v1 ⟨vap, vcp, gap, gcp, rfl, hVp, hGp, hB⟩
  have z12 : wo5.heap.size ≤ v1.heap.size := hB.size
  have B13 : Hid (Abx v1 (w.heap.size) (.bool false) (.slice sa1 sz1.length sc1) (.slice da1 dz1.length dc1)) := B7.out.go hB
  have B14 : Hid (Abx v1 (w.heap.size + 1) (.bool c2) (.slice sa2 sz2.length sc2) (.slice da2 dz2.length dc2)) := B8.out.go hB
  have B15 : Hid (Abx v1 (w.heap.size + 1 + 1) (.bool false) (.slice sa3 sz3.length sc3) (.slice da3 dz3.length dc3)) := B9.out.go hB
  have L16 : Hid (MidC (w.heap.size + 1 + 1 + 1) (w.heap.size + 1 + 1 + 1 + 1) v1 (some ⟨w.heap.size + 1 + 1 + 1, 0, none⟩) ([5, 7]) (2)) := L10.out.go (by omega) hB
  have hb17 : Hid (Below w.heap.size w v1) := hb11.out.trans (hB.mono hb11.out.size)
  have L18 : Hid (MidC (wo5.heap.size) (v1.heap.size) v1 (vap) ([(2 : Int)]) (vcp)) := hVp.midc
  have L19 : Hid (MidC (wo5.heap.size) (v1.heap.size) v1 (gap) ([5, 7]) (gcp)) := hGp.midc
  clear hB hb11 B7 B8 B9 L10 hVp hGp
  clear L16
  have n20 := lit_mid v1 3 [1, 2] 2 rfl
  simp only [List.map_cons, List.map_nil] at n20
  go_wp2_with fail
  obtain ⟨wo21, hwo21⟩ : ∃ wo21, wo21 = (v1.alloc (.cells #[.int .i64 1, .int .i64 2] 3)) := ⟨_, rfl⟩
  rw [← hwo21]
  have z22 : v1.heap.size + 1 ≤ wo21.heap.size := by rw [hwo21]; simp only [World.size_alloc]; omega
  have B23 : Hid (Abx wo21 (w.heap.size) (.bool false) (.slice sa1 sz1.length sc1) (.slice da1 dz1.length dc1)) := by rw [hwo21]; exact (B13.out.al (.cells #[.int .i64 1, .int .i64 2] 3))
  have B24 : Hid (Abx wo21 (w.heap.size + 1) (.bool c2) (.slice sa2 sz2.length sc2) (.slice da2 dz2.length dc2)) := by rw [hwo21]; exact (B14.out.al (.cells #[.int .i64 1, .int .i64 2] 3))
  have B25 : Hid (Abx wo21 (w.heap.size + 1 + 1) (.bool false) (.slice sa3 sz3.length sc3) (.slice da3 dz3.length dc3)) := by rw [hwo21]; exact (B15.out.al (.cells #[.int .i64 1, .int .i64 2] 3))
  have L26 : Hid (MidC (wo5.heap.size) (v1.heap.size) wo21 (vap) ([(2 : Int)]) (vcp)) := by rw [hwo21]; exact (L18.out.al (by omega) (.cells #[.int .i64 1, .int .i64 2] 3))
  have L27 : Hid (MidC (wo5.heap.size) (v1.heap.size) wo21 (gap) ([5, 7]) (gcp)) := by rw [hwo21]; exact (L19.out.al (by omega) (.cells #[.int .i64 1, .int .i64 2] 3))
  have L28 : Hid (MidC (v1.heap.size) (v1.heap.size + 1) wo21 (some ⟨v1.heap.size, 0, none⟩) ([1, 2]) (2)) := by rw [hwo21]; exact n20
  have hb29 : Hid (Below w.heap.size w wo21) := by rw [hwo21]; exact (hb17.out.alloc (by omega) (.cells #[.int .i64 1, .int .i64 2] 3))
  have zwo21 : w.heap.size ≤ wo21.heap.size := hb29.out.size
  clear hwo21 n20 hb17 B13 B14 B15 L18 L19
  refine (vec_c (some ⟨v1.heap.size, 0, none⟩) 2 [1, 2] (by simp) _ (L28.out.is (by omega)).1).mono ?_
  rintro e v2 ⟨vaq, vcq, gaq, gcq, rfl, hVq, hGq, hB⟩
  have z30 : wo21.heap.size ≤ v2.heap.size := hB.size
  have B31 : Hid (Abx v2 (w.heap.size) (.bool false) (.slice sa1 sz1.length sc1) (.slice da1 dz1.length dc1)) := B23.out.go hB
  have B32 : Hid (Abx v2 (w.heap.size + 1) (.bool c2) (.slice sa2 sz2.length sc2) (.slice da2 dz2.length dc2)) := B24.out.go hB
  have B33 : Hid (Abx v2 (w.heap.size + 1 + 1) (.bool false) (.slice sa3 sz3.length sc3) (.slice da3 dz3.length dc3)) := B25.out.go hB
  have L34 : Hid (MidC (wo5.heap.size) (v1.heap.size) v2 (vap) ([(2 : Int)]) (vcp)) := L26.out.go (by omega) hB
  have L35 : Hid (MidC (wo5.heap.size) (v1.heap.size) v2 (gap) ([5, 7]) (gcp)) := L27.out.go (by omega) hB
  have L36 : Hid (MidC (v1.heap.size) (v1.heap.size + 1) v2 (some ⟨v1.heap.size, 0, none⟩) ([1, 2]) (2)) := L28.out.go (by omega) hB
  have hb37 : Hid (Below w.heap.size w v2) := hb29.out.trans (hB.mono hb29.out.size)
  have L38 : Hid (MidC (wo21.heap.size) (v2.heap.size) v2 (vaq) ([(2 : Int)]) (vcq)) := hVq.midc
  have L39 : Hid (MidC (wo21.heap.size) (v2.heap.size) v2 (gaq) ([1, 2]) (gcq)) := hGq.midc
  clear hB hb29 B23 B24 B25 L26 L27 L28 hVq hGq
  clear L36
  go_wp2_with fail
  refine (otw_ok 2 false vap vcp [(2 : Int)] 1 rfl gap gcp [5, 7] 2 rfl false vaq vcq [(2 : Int)] 1 rfl gaq gcq [1, 2] 2 rfl _ (by unfold In64; decide) (by decide) (by decide) (L34.out.is (by omega)).1 (L35.out.is (by omega)).1 (lit12 (by decide)) (by decide) (by decide) (L38.out.is (by omega)).1 (L39.out.is (by omega)).1 (lit12 (by decide)) [2, 2] [4, 3, 6, 5] HOt (by show otE 2 false [2] [5, 7] false [2] [1, 2] = 0 ∧ [(2 : Int)] ++ [2] = [2, 2] ∧ otD 2 false [2] [5, 7] false [2] [1, 2] = [4, 3, 6, 5]; decide +kernel)).mono ?_
  rintro e v3 ⟨f1, g1, f2, g2, rfl, hX0, hY0, hB⟩
  have z40 : v2.heap.size ≤ v3.heap.size := hB.size
  have B41 : Hid (Abx v3 (w.heap.size) (.bool false) (.slice sa1 sz1.length sc1) (.slice da1 dz1.length dc1)) := B31.out.go hB
  have B42 : Hid (Abx v3 (w.heap.size + 1) (.bool c2) (.slice sa2 sz2.length sc2) (.slice da2 dz2.length dc2)) := B32.out.go hB
  have B43 : Hid (Abx v3 (w.heap.size + 1 + 1) (.bool false) (.slice sa3 sz3.length sc3) (.slice da3 dz3.length dc3)) := B33.out.go hB
  have L44 : Hid (MidC (wo5.heap.size) (v1.heap.size) v3 (vap) ([(2 : Int)]) (vcp)) := L34.out.go (by omega) hB
  have L45 : Hid (MidC (wo5.heap.size) (v1.heap.size) v3 (gap) ([5, 7]) (gcp)) := L35.out.go (by omega) hB
  have L46 : Hid (MidC (wo21.heap.size) (v2.heap.size) v3 (vaq) ([(2 : Int)]) (vcq)) := L38.out.go (by omega) hB
  have L47 : Hid (MidC (wo21.heap.size) (v2.heap.size) v3 (gaq) ([1, 2]) (gcq)) := L39.out.go (by omega) hB
  have hb48 : Hid (Below w.heap.size w v3) := hb37.out.trans (hB.mono hb37.out.size)
  have L49 : Hid (MidC (v2.heap.size) (v3.heap.size) v3 (f1) ([2, 2]) (g1)) := hX0.midc
  have L50 : Hid (MidC (v2.heap.size) (v3.heap.size) v3 (f2) ([4, 3, 6, 5]) (g2)) := hY0.midc
  clear hB hb37 B31 B32 B33 L34 L35 L38 L39 hX0 hY0
  clear L44 L45 L46 L47
  have n51 := Abx.new v3 (.bool false) (.slice f1 2 g1) (.slice f2 4 g2)
  have l52 := (n51).c0
  have l53 := (n51).c1
  have l54 := (n51).c2
  have n55 := lit_mid (v3.alloc (.cells #[.bool false, .slice f1 2 g1, .slice f2 4 g2] 24)) 3 [4, 3, 6, 5] 4 rfl
  simp only [World.size_alloc, List.map_cons, List.map_nil] at n55
  go_wp2_with fail
  obtain ⟨wo56, hwo56⟩ : ∃ wo56, wo56 = ((v3.alloc (.cells #[.bool false, .slice f1 2 g1, .slice f2 4 g2] 24)).alloc (.cells #[.int .i64 4, .int .i64 3, .int .i64 6, .int .i64 5] 3)) := ⟨_, rfl⟩
  rw [← hwo56]
  have z57 : v3.heap.size + 1 + 1 ≤ wo56.heap.size := by rw [hwo56]; simp only [World.size_alloc]; omega
  have B58 : Hid (Abx wo56 (w.heap.size) (.bool false) (.slice sa1 sz1.length sc1) (.slice da1 dz1.length dc1)) := by rw [hwo56]; exact ((B41.out.al (.cells #[.bool false, .slice f1 2 g1, .slice f2 4 g2] 24)).al (.cells #[.int .i64 4, .int .i64 3, .int .i64 6, .int .i64 5] 3))
  have B59 : Hid (Abx wo56 (w.heap.size + 1) (.bool c2) (.slice sa2 sz2.length sc2) (.slice da2 dz2.length dc2)) := by rw [hwo56]; exact ((B42.out.al (.cells #[.bool false, .slice f1 2 g1, .slice f2 4 g2] 24)).al (.cells #[.int .i64 4, .int .i64 3, .int .i64 6, .int .i64 5] 3))
  have B60 : Hid (Abx wo56 (w.heap.size + 1 + 1) (.bool false) (.slice sa3 sz3.length sc3) (.slice da3 dz3.length dc3)) := by rw [hwo56]; exact ((B43.out.al (.cells #[.bool false, .slice f1 2 g1, .slice f2 4 g2] 24)).al (.cells #[.int .i64 4, .int .i64 3, .int .i64 6, .int .i64 5] 3))
  have B61 : Hid (Abx wo56 (v3.heap.size) (.bool false) (.slice f1 2 g1) (.slice f2 4 g2)) := by rw [hwo56]; exact (n51.al (.cells #[.int .i64 4, .int .i64 3, .int .i64 6, .int .i64 5] 3))
  have L62 : Hid (MidC (v2.heap.size) (v3.heap.size) wo56 (f1) ([2, 2]) (g1)) := by rw [hwo56]; exact ((L49.out.al (by omega) (.cells #[.bool false, .slice f1 2 g1, .slice f2 4 g2] 24)).al (by simp only [World.size_alloc]; omega) (.cells #[.int .i64 4, .int .i64 3, .int .i64 6, .int .i64 5] 3))
  have L63 : Hid (MidC (v2.heap.size) (v3.heap.size) wo56 (f2) ([4, 3, 6, 5]) (g2)) := by rw [hwo56]; exact ((L50.out.al (by omega) (.cells #[.bool false, .slice f1 2 g1, .slice f2 4 g2] 24)).al (by simp only [World.size_alloc]; omega) (.cells #[.int .i64 4, .int .i64 3, .int .i64 6, .int .i64 5] 3))
  have L64 : Hid (MidC (v3.heap.size + 1) (v3.heap.size + 1 + 1) wo56 (some ⟨v3.heap.size + 1, 0, none⟩) ([4, 3, 6, 5]) (4)) := by rw [hwo56]; exact n55
  have hb65 : Hid (Below w.heap.size w wo56) := by rw [hwo56]; exact ((hb48.out.alloc (by omega) (.cells #[.bool false, .slice f1 2 g1, .slice f2 4 g2] 24)).alloc (by simp only [World.size_alloc]; omega) (.cells #[.int .i64 4, .int .i64 3, .int .i64 6, .int .i64 5] 3))
  have zwo56 : w.heap.size ≤ wo56.heap.size := hb65.out.size
  clear hwo56 n51 l52 l53 l54 n55 hb48 B41 B42 B43 L49 L50
  refine (ints_any f2 g2 [4, 3, 6, 5] (some ⟨v3.heap.size + 1, 0, none⟩) 4 [4, 3, 6, 5] (by simp) _ _ (L63.out.is (by omega)).1 (L64.out.is (by omega)).1).mono ?_
  rintro e v4 ⟨rfl, hB⟩
  have z66 : wo56.heap.size ≤ v4.heap.size := hB.size
  have B67 : Hid (Abx v4 (w.heap.size) (.bool false) (.slice sa1 sz1.length sc1) (.slice da1 dz1.length dc1)) := B58.out.go hB
  have B68 : Hid (Abx v4 (w.heap.size + 1) (.bool c2) (.slice sa2 sz2.length sc2) (.slice da2 dz2.length dc2)) := B59.out.go hB
  have B69 : Hid (Abx v4 (w.heap.size + 1 + 1) (.bool false) (.slice sa3 sz3.length sc3) (.slice da3 dz3.length dc3)) := B60.out.go hB
  have B70 : Hid (Abx v4 (v3.heap.size) (.bool false) (.slice f1 2 g1) (.slice f2 4 g2)) := B61.out.go hB
  have L71 : Hid (MidC (v2.heap.size) (v3.heap.size) v4 (f1) ([2, 2]) (g1)) := L62.out.go (by omega) hB
  have L72 : Hid (MidC (v2.heap.size) (v3.heap.size) v4 (f2) ([4, 3, 6, 5]) (g2)) := L63.out.go (by omega) hB
  have L73 : Hid (MidC (v3.heap.size + 1) (v3.heap.size + 1 + 1) v4 (some ⟨v3.heap.size + 1, 0, none⟩) ([4, 3, 6, 5]) (4)) := L64.out.go (by omega) hB
  have hb74 : Hid (Below w.heap.size w v4) := hb65.out.trans (hB.mono hb65.out.size)
  clear hB hb65 B58 B59 B60 B61 L62 L63 L64
  rw [eqB_true rfl]
  clear L71 L72 L73 B70
  have l75 := (B67.out).c0
  have l76 := (B67.out).c1
  have l77 := (B67.out).c2
  have l78 := (B68.out).c0
  have l79 := (B68.out).c1
  have l80 := (B68.out).c2
  go_wp2_with fail
  clear l75 l76 l77 l78 l79 l80
  refine (jn_ok 0 (by unfold In64; decide) false sa1 sc1 sz1 da1 dc1 dz1 c2 sa2 sc2 sz2 da2 dc2 dz2 _ x11 x12 ((HI1.out.1.below hb74.out).mono hb74.out.size) ((HI1.out.2.1.below hb74.out).mono hb74.out.size) HI1.out.2.2.2 x21 x22 ((HI2.out.1.below hb74.out).mono hb74.out.size) ((HI2.out.2.1.below hb74.out).mono hb74.out.size) HI2.out.2.2.2 S0 D0 HJn HJ.out).mono ?_
  rintro e v5 ⟨xa1, xc1, ya1, yc1, rfl, hX1, hY1, hB⟩
  have z81 : v4.heap.size ≤ v5.heap.size := hB.size
  have B82 : Hid (Abx v5 (w.heap.size) (.bool false) (.slice sa1 sz1.length sc1) (.slice da1 dz1.length dc1)) := B67.out.go hB
  have B83 : Hid (Abx v5 (w.heap.size + 1) (.bool c2) (.slice sa2 sz2.length sc2) (.slice da2 dz2.length dc2)) := B68.out.go hB
  have B84 : Hid (Abx v5 (w.heap.size + 1 + 1) (.bool false) (.slice sa3 sz3.length sc3) (.slice da3 dz3.length dc3)) := B69.out.go hB
  have hb85 : Hid (Below w.heap.size w v5) := hb74.out.trans (hB.mono hb74.out.size)
  have L86 : Hid (MidC (v4.heap.size) (v5.heap.size) v5 (xa1) (S0) (xc1)) := hX1.midc
  have L87 : Hid (MidC (v4.heap.size) (v5.heap.size) v5 (ya1) (D0) (yc1)) := hY1.midc
  clear hB hb74 B67 B68 B69 hX1 hY1
  have n88 := Abx.new v5 (.bool false) (.slice xa1 S0.length xc1) (.slice ya1 D0.length yc1)
  have l89 := (n88).c0
  have l90 := (n88).c1
  have l91 := (n88).c2
  have l92 := ((B84.out.al (.cells #[.bool false, .slice xa1 S0.length xc1, .slice ya1 D0.length yc1] 24))).c0
  have l93 := ((B84.out.al (.cells #[.bool false, .slice xa1 S0.length xc1, .slice ya1 D0.length yc1] 24))).c1
  have l94 := ((B84.out.al (.cells #[.bool false, .slice xa1 S0.length xc1, .slice ya1 D0.length yc1] 24))).c2
  go_wp2_with fail
  obtain ⟨wo95, hwo95⟩ : ∃ wo95, wo95 = (v5.alloc (.cells #[.bool false, .slice xa1 S0.length xc1, .slice ya1 D0.length yc1] 24)) := ⟨_, rfl⟩
  rw [← hwo95]
  have z96 : v5.heap.size + 1 ≤ wo95.heap.size := by rw [hwo95]; simp only [World.size_alloc]; omega
  have B97 : Hid (Abx wo95 (w.heap.size) (.bool false) (.slice sa1 sz1.length sc1) (.slice da1 dz1.length dc1)) := by rw [hwo95]; exact (B82.out.al (.cells #[.bool false, .slice xa1 S0.length xc1, .slice ya1 D0.length yc1] 24))
  have B98 : Hid (Abx wo95 (w.heap.size + 1) (.bool c2) (.slice sa2 sz2.length sc2) (.slice da2 dz2.length dc2)) := by rw [hwo95]; exact (B83.out.al (.cells #[.bool false, .slice xa1 S0.length xc1, .slice ya1 D0.length yc1] 24))
  have B99 : Hid (Abx wo95 (w.heap.size + 1 + 1) (.bool false) (.slice sa3 sz3.length sc3) (.slice da3 dz3.length dc3)) := by rw [hwo95]; exact (B84.out.al (.cells #[.bool false, .slice xa1 S0.length xc1, .slice ya1 D0.length yc1] 24))
  have B100 : Hid (Abx wo95 (v5.heap.size) (.bool false) (.slice xa1 S0.length xc1) (.slice ya1 D0.length yc1)) := by rw [hwo95]; exact n88
  have L101 : Hid (MidC (v4.heap.size) (v5.heap.size) wo95 (xa1) (S0) (xc1)) := by rw [hwo95]; exact (L86.out.al (by omega) (.cells #[.bool false, .slice xa1 S0.length xc1, .slice ya1 D0.length yc1] 24))
  have L102 : Hid (MidC (v4.heap.size) (v5.heap.size) wo95 (ya1) (D0) (yc1)) := by rw [hwo95]; exact (L87.out.al (by omega) (.cells #[.bool false, .slice xa1 S0.length xc1, .slice ya1 D0.length yc1] 24))
  have hb103 : Hid (Below w.heap.size w wo95) := by rw [hwo95]; exact (hb85.out.alloc (by omega) (.cells #[.bool false, .slice xa1 S0.length xc1, .slice ya1 D0.length yc1] 24))
  have zwo95 : w.heap.size ≤ wo95.heap.size := hb103.out.size
  clear hwo95 n88 l89 l90 l91 l92 l93 l94 hb85 B82 B83 B84 L86 L87
  refine (otw_ok f false xa1 xc1 S0 S0.length rfl ya1 yc1 D0 D0.length rfl false sa3 sc3 sz3 sz3.length rfl da3 dc3 dz3 dz3.length rfl _ hf (by omega) (by omega) (L101.out.is (by omega)).1 (L102.out.is (by omega)).1 HJT.out x31 x32 ((HI3.out.1.1.below hb103.out).mono hb103.out.size) ((HI3.out.2.1.1.below hb103.out).mono hb103.out.size) HI3.out.2.2.2 SY DY HOt HR1.out).mono ?_
  rintro e v6 ⟨xa2, xc2, ya2, yc2, rfl, hX2, hY2, hB⟩
  have z104 : wo95.heap.size ≤ v6.heap.size := hB.size
  have B105 : Hid (Abx v6 (w.heap.size) (.bool false) (.slice sa1 sz1.length sc1) (.slice da1 dz1.length dc1)) := B97.out.go hB
  have B106 : Hid (Abx v6 (w.heap.size + 1) (.bool c2) (.slice sa2 sz2.length sc2) (.slice da2 dz2.length dc2)) := B98.out.go hB
  have B107 : Hid (Abx v6 (w.heap.size + 1 + 1) (.bool false) (.slice sa3 sz3.length sc3) (.slice da3 dz3.length dc3)) := B99.out.go hB
  have B108 : Hid (Abx v6 (v5.heap.size) (.bool false) (.slice xa1 S0.length xc1) (.slice ya1 D0.length yc1)) := B100.out.go hB
  have L109 : Hid (MidC (v4.heap.size) (v5.heap.size) v6 (xa1) (S0) (xc1)) := L101.out.go (by omega) hB
  have L110 : Hid (MidC (v4.heap.size) (v5.heap.size) v6 (ya1) (D0) (yc1)) := L102.out.go (by omega) hB
  have hb111 : Hid (Below w.heap.size w v6) := hb103.out.trans (hB.mono hb103.out.size)
  have L112 : Hid (MidC (wo95.heap.size) (v6.heap.size) v6 (xa2) (SY) (xc2)) := hX2.midc
  have L113 : Hid (MidC (wo95.heap.size) (v6.heap.size) v6 (ya2) (DY) (yc2)) := hY2.midc
  clear hB hb103 B97 B98 B99 B100 L101 L102 hX2 hY2
  clear L109 L110 B108
  have n114 := Abx.new v6 (.bool false) (.slice xa2 SY.length xc2) (.slice ya2 DY.length yc2)
  have l115 := ((B105.out.al (.cells #[.bool false, .slice xa2 SY.length xc2, .slice ya2 DY.length yc2] 24))).c0
  have l116 := ((B105.out.al (.cells #[.bool false, .slice xa2 SY.length xc2, .slice ya2 DY.length yc2] 24))).c1
  have l117 := ((B105.out.al (.cells #[.bool false, .slice xa2 SY.length xc2, .slice ya2 DY.length yc2] 24))).c2
  have l118 := ((B107.out.al (.cells #[.bool false, .slice xa2 SY.length xc2, .slice ya2 DY.length yc2] 24))).c0
  have l119 := ((B107.out.al (.cells #[.bool false, .slice xa2 SY.length xc2, .slice ya2 DY.length yc2] 24))).c1
  have l120 := ((B107.out.al (.cells #[.bool false, .slice xa2 SY.length xc2, .slice ya2 DY.length yc2] 24))).c2
  go_wp2_with fail
  obtain ⟨wo121, hwo121⟩ : ∃ wo121, wo121 = (v6.alloc (.cells #[.bool false, .slice xa2 SY.length xc2, .slice ya2 DY.length yc2] 24)) := ⟨_, rfl⟩
  rw [← hwo121]
  have z122 : v6.heap.size + 1 ≤ wo121.heap.size := by rw [hwo121]; simp only [World.size_alloc]; omega
  have B123 : Hid (Abx wo121 (w.heap.size) (.bool false) (.slice sa1 sz1.length sc1) (.slice da1 dz1.length dc1)) := by rw [hwo121]; exact (B105.out.al (.cells #[.bool false, .slice xa2 SY.length xc2, .slice ya2 DY.length yc2] 24))
  have B124 : Hid (Abx wo121 (w.heap.size + 1) (.bool c2) (.slice sa2 sz2.length sc2) (.slice da2 dz2.length dc2)) := by rw [hwo121]; exact (B106.out.al (.cells #[.bool false, .slice xa2 SY.length xc2, .slice ya2 DY.length yc2] 24))
  have B125 : Hid (Abx wo121 (w.heap.size + 1 + 1) (.bool false) (.slice sa3 sz3.length sc3) (.slice da3 dz3.length dc3)) := by rw [hwo121]; exact (B107.out.al (.cells #[.bool false, .slice xa2 SY.length xc2, .slice ya2 DY.length yc2] 24))
  have B126 : Hid (Abx wo121 (v6.heap.size) (.bool false) (.slice xa2 SY.length xc2) (.slice ya2 DY.length yc2)) := by rw [hwo121]; exact n114
  have L127 : Hid (MidC (wo95.heap.size) (v6.heap.size) wo121 (xa2) (SY) (xc2)) := by rw [hwo121]; exact (L112.out.al (by omega) (.cells #[.bool false, .slice xa2 SY.length xc2, .slice ya2 DY.length yc2] 24))
  have L128 : Hid (MidC (wo95.heap.size) (v6.heap.size) wo121 (ya2) (DY) (yc2)) := by rw [hwo121]; exact (L113.out.al (by omega) (.cells #[.bool false, .slice xa2 SY.length xc2, .slice ya2 DY.length yc2] 24))
  have hb129 : Hid (Below w.heap.size w wo121) := by rw [hwo121]; exact (hb111.out.alloc (by omega) (.cells #[.bool false, .slice xa2 SY.length xc2, .slice ya2 DY.length yc2] 24))
  have zwo121 : w.heap.size ≤ wo121.heap.size := hb129.out.size
  clear hwo121 n114 l115 l116 l117 l118 l119 l120 hb111 B105 B106 B107 L112 L113
  refine (otw_ok f false sa1 sc1 sz1 sz1.length rfl da1 dc1 dz1 dz1.length rfl false sa3 sc3 sz3 sz3.length rfl da3 dc3 dz3 dz3.length rfl _ hf x11 x12 ((HI1.out.1.1.below hb129.out).mono hb129.out.size) ((HI1.out.2.1.1.below hb129.out).mono hb129.out.size) HI1.out.2.2.2 x31 x32 ((HI3.out.1.1.below hb129.out).mono hb129.out.size) ((HI3.out.2.1.1.below hb129.out).mono hb129.out.size) HI3.out.2.2.2 SP DP HOt HR2.out).mono ?_
  rintro e v7 ⟨xa3, xc3, ya3, yc3, rfl, hX3, hY3, hB⟩
  have z130 : wo121.heap.size ≤ v7.heap.size := hB.size
  have B131 : Hid (Abx v7 (w.heap.size) (.bool false) (.slice sa1 sz1.length sc1) (.slice da1 dz1.length dc1)) := B123.out.go hB
  have B132 : Hid (Abx v7 (w.heap.size + 1) (.bool c2) (.slice sa2 sz2.length sc2) (.slice da2 dz2.length dc2)) := B124.out.go hB
  have B133 : Hid (Abx v7 (w.heap.size + 1 + 1) (.bool false) (.slice sa3 sz3.length sc3) (.slice da3 dz3.length dc3)) := B125.out.go hB
  have B134 : Hid (Abx v7 (v6.heap.size) (.bool false) (.slice xa2 SY.length xc2) (.slice ya2 DY.length yc2)) := B126.out.go hB
  have L135 : Hid (MidC (wo95.heap.size) (v6.heap.size) v7 (xa2) (SY) (xc2)) := L127.out.go (by omega) hB
  have L136 : Hid (MidC (wo95.heap.size) (v6.heap.size) v7 (ya2) (DY) (yc2)) := L128.out.go (by omega) hB
  have hb137 : Hid (Below w.heap.size w v7) := hb129.out.trans (hB.mono hb129.out.size)
  have L138 : Hid (MidC (wo121.heap.size) (v7.heap.size) v7 (xa3) (SP) (xc3)) := hX3.midc
  have L139 : Hid (MidC (wo121.heap.size) (v7.heap.size) v7 (ya3) (DP) (yc3)) := hY3.midc
  clear hB hb129 B123 B124 B125 B126 L127 L128 hX3 hY3
  have n140 := Abx.new v7 (.bool false) (.slice xa3 SP.length xc3) (.slice ya3 DP.length yc3)
  have l141 := ((B132.out.al (.cells #[.bool false, .slice xa3 SP.length xc3, .slice ya3 DP.length yc3] 24))).c0
  have l142 := ((B132.out.al (.cells #[.bool false, .slice xa3 SP.length xc3, .slice ya3 DP.length yc3] 24))).c1
  have l143 := ((B132.out.al (.cells #[.bool false, .slice xa3 SP.length xc3, .slice ya3 DP.length yc3] 24))).c2
  have l144 := ((B133.out.al (.cells #[.bool false, .slice xa3 SP.length xc3, .slice ya3 DP.length yc3] 24))).c0
  have l145 := ((B133.out.al (.cells #[.bool false, .slice xa3 SP.length xc3, .slice ya3 DP.length yc3] 24))).c1
  have l146 := ((B133.out.al (.cells #[.bool false, .slice xa3 SP.length xc3, .slice ya3 DP.length yc3] 24))).c2
  go_wp2_with fail
  obtain ⟨wo147, hwo147⟩ : ∃ wo147, wo147 = (v7.alloc (.cells #[.bool false, .slice xa3 SP.length xc3, .slice ya3 DP.length yc3] 24)) := ⟨_, rfl⟩
  rw [← hwo147]
  have z148 : v7.heap.size + 1 ≤ wo147.heap.size := by rw [hwo147]; simp only [World.size_alloc]; omega
  have B149 : Hid (Abx wo147 (w.heap.size) (.bool false) (.slice sa1 sz1.length sc1) (.slice da1 dz1.length dc1)) := by rw [hwo147]; exact (B131.out.al (.cells #[.bool false, .slice xa3 SP.length xc3, .slice ya3 DP.length yc3] 24))
  have B150 : Hid (Abx wo147 (w.heap.size + 1) (.bool c2) (.slice sa2 sz2.length sc2) (.slice da2 dz2.length dc2)) := by rw [hwo147]; exact (B132.out.al (.cells #[.bool false, .slice xa3 SP.length xc3, .slice ya3 DP.length yc3] 24))
  have B151 : Hid (Abx wo147 (w.heap.size + 1 + 1) (.bool false) (.slice sa3 sz3.length sc3) (.slice da3 dz3.length dc3)) := by rw [hwo147]; exact (B133.out.al (.cells #[.bool false, .slice xa3 SP.length xc3, .slice ya3 DP.length yc3] 24))
  have B152 : Hid (Abx wo147 (v6.heap.size) (.bool false) (.slice xa2 SY.length xc2) (.slice ya2 DY.length yc2)) := by rw [hwo147]; exact (B134.out.al (.cells #[.bool false, .slice xa3 SP.length xc3, .slice ya3 DP.length yc3] 24))
  have B153 : Hid (Abx wo147 (v7.heap.size) (.bool false) (.slice xa3 SP.length xc3) (.slice ya3 DP.length yc3)) := by rw [hwo147]; exact n140
  have L154 : Hid (MidC (wo95.heap.size) (v6.heap.size) wo147 (xa2) (SY) (xc2)) := by rw [hwo147]; exact (L135.out.al (by omega) (.cells #[.bool false, .slice xa3 SP.length xc3, .slice ya3 DP.length yc3] 24))
  have L155 : Hid (MidC (wo95.heap.size) (v6.heap.size) wo147 (ya2) (DY) (yc2)) := by rw [hwo147]; exact (L136.out.al (by omega) (.cells #[.bool false, .slice xa3 SP.length xc3, .slice ya3 DP.length yc3] 24))
  have L156 : Hid (MidC (wo121.heap.size) (v7.heap.size) wo147 (xa3) (SP) (xc3)) := by rw [hwo147]; exact (L138.out.al (by omega) (.cells #[.bool false, .slice xa3 SP.length xc3, .slice ya3 DP.length yc3] 24))
  have L157 : Hid (MidC (wo121.heap.size) (v7.heap.size) wo147 (ya3) (DP) (yc3)) := by rw [hwo147]; exact (L139.out.al (by omega) (.cells #[.bool false, .slice xa3 SP.length xc3, .slice ya3 DP.length yc3] 24))
  have hb158 : Hid (Below w.heap.size w wo147) := by rw [hwo147]; exact (hb137.out.alloc (by omega) (.cells #[.bool false, .slice xa3 SP.length xc3, .slice ya3 DP.length yc3] 24))
  have zwo147 : w.heap.size ≤ wo147.heap.size := hb158.out.size
  clear hwo147 n140 l141 l142 l143 l144 l145 l146 hb137 B131 B132 B133 B134 L135 L136 L138 L139
  refine (otw_ok f c2 sa2 sc2 sz2 sz2.length rfl da2 dc2 dz2 dz2.length rfl false sa3 sc3 sz3 sz3.length rfl da3 dc3 dz3 dz3.length rfl _ hf x21 x22 ((HI2.out.1.1.below hb158.out).mono hb158.out.size) ((HI2.out.2.1.1.below hb158.out).mono hb158.out.size) HI2.out.2.2.2 x31 x32 ((HI3.out.1.1.below hb158.out).mono hb158.out.size) ((HI3.out.2.1.1.below hb158.out).mono hb158.out.size) HI3.out.2.2.2 SQ DQ HOt HR3.out).mono ?_
  rintro e v8 ⟨xa4, xc4, ya4, yc4, rfl, hX4, hY4, hB⟩
  have z159 : wo147.heap.size ≤ v8.heap.size := hB.size
  have B160 : Hid (Abx v8 (w.heap.size) (.bool false) (.slice sa1 sz1.length sc1) (.slice da1 dz1.length dc1)) := B149.out.go hB
  have B161 : Hid (Abx v8 (w.heap.size + 1) (.bool c2) (.slice sa2 sz2.length sc2) (.slice da2 dz2.length dc2)) := B150.out.go hB
  have B162 : Hid (Abx v8 (w.heap.size + 1 + 1) (.bool false) (.slice sa3 sz3.length sc3) (.slice da3 dz3.length dc3)) := B151.out.go hB
  have B163 : Hid (Abx v8 (v6.heap.size) (.bool false) (.slice xa2 SY.length xc2) (.slice ya2 DY.length yc2)) := B152.out.go hB
  have B164 : Hid (Abx v8 (v7.heap.size) (.bool false) (.slice xa3 SP.length xc3) (.slice ya3 DP.length yc3)) := B153.out.go hB
  have L165 : Hid (MidC (wo95.heap.size) (v6.heap.size) v8 (xa2) (SY) (xc2)) := L154.out.go (by omega) hB
  have L166 : Hid (MidC (wo95.heap.size) (v6.heap.size) v8 (ya2) (DY) (yc2)) := L155.out.go (by omega) hB
  have L167 : Hid (MidC (wo121.heap.size) (v7.heap.size) v8 (xa3) (SP) (xc3)) := L156.out.go (by omega) hB
  have L168 : Hid (MidC (wo121.heap.size) (v7.heap.size) v8 (ya3) (DP) (yc3)) := L157.out.go (by omega) hB
  have hb169 : Hid (Below w.heap.size w v8) := hb158.out.trans (hB.mono hb158.out.size)
  have L170 : Hid (MidC (wo147.heap.size) (v8.heap.size) v8 (xa4) (SQ) (xc4)) := hX4.midc
  have L171 : Hid (MidC (wo147.heap.size) (v8.heap.size) v8 (ya4) (DQ) (yc4)) := hY4.midc
  clear hB hb158 B149 B150 B151 B152 B153 L154 L155 L156 L157 hX4 hY4
  have n172 := Abx.new v8 (.bool false) (.slice xa4 SQ.length xc4) (.slice ya4 DQ.length yc4)
  have l173 := ((B164.out.al (.cells #[.bool false, .slice xa4 SQ.length xc4, .slice ya4 DQ.length yc4] 24))).c0
  have l174 := ((B164.out.al (.cells #[.bool false, .slice xa4 SQ.length xc4, .slice ya4 DQ.length yc4] 24))).c1
  have l175 := ((B164.out.al (.cells #[.bool false, .slice xa4 SQ.length xc4, .slice ya4 DQ.length yc4] 24))).c2
  have l176 := (n172).c0
  have l177 := (n172).c1
  have l178 := (n172).c2
  go_wp2_with fail
  obtain ⟨wo179, hwo179⟩ : ∃ wo179, wo179 = (v8.alloc (.cells #[.bool false, .slice xa4 SQ.length xc4, .slice ya4 DQ.length yc4] 24)) := ⟨_, rfl⟩
  rw [← hwo179]
  have z180 : v8.heap.size + 1 ≤ wo179.heap.size := by rw [hwo179]; simp only [World.size_alloc]; omega
  have B181 : Hid (Abx wo179 (w.heap.size) (.bool false) (.slice sa1 sz1.length sc1) (.slice da1 dz1.length dc1)) := by rw [hwo179]; exact (B160.out.al (.cells #[.bool false, .slice xa4 SQ.length xc4, .slice ya4 DQ.length yc4] 24))
  have B182 : Hid (Abx wo179 (w.heap.size + 1) (.bool c2) (.slice sa2 sz2.length sc2) (.slice da2 dz2.length dc2)) := by rw [hwo179]; exact (B161.out.al (.cells #[.bool false, .slice xa4 SQ.length xc4, .slice ya4 DQ.length yc4] 24))
  have B183 : Hid (Abx wo179 (w.heap.size + 1 + 1) (.bool false) (.slice sa3 sz3.length sc3) (.slice da3 dz3.length dc3)) := by rw [hwo179]; exact (B162.out.al (.cells #[.bool false, .slice xa4 SQ.length xc4, .slice ya4 DQ.length yc4] 24))
  have B184 : Hid (Abx wo179 (v6.heap.size) (.bool false) (.slice xa2 SY.length xc2) (.slice ya2 DY.length yc2)) := by rw [hwo179]; exact (B163.out.al (.cells #[.bool false, .slice xa4 SQ.length xc4, .slice ya4 DQ.length yc4] 24))
  have B185 : Hid (Abx wo179 (v7.heap.size) (.bool false) (.slice xa3 SP.length xc3) (.slice ya3 DP.length yc3)) := by rw [hwo179]; exact (B164.out.al (.cells #[.bool false, .slice xa4 SQ.length xc4, .slice ya4 DQ.length yc4] 24))
  have B186 : Hid (Abx wo179 (v8.heap.size) (.bool false) (.slice xa4 SQ.length xc4) (.slice ya4 DQ.length yc4)) := by rw [hwo179]; exact n172
  have L187 : Hid (MidC (wo95.heap.size) (v6.heap.size) wo179 (xa2) (SY) (xc2)) := by rw [hwo179]; exact (L165.out.al (by omega) (.cells #[.bool false, .slice xa4 SQ.length xc4, .slice ya4 DQ.length yc4] 24))
  have L188 : Hid (MidC (wo95.heap.size) (v6.heap.size) wo179 (ya2) (DY) (yc2)) := by rw [hwo179]; exact (L166.out.al (by omega) (.cells #[.bool false, .slice xa4 SQ.length xc4, .slice ya4 DQ.length yc4] 24))
  have L189 : Hid (MidC (wo121.heap.size) (v7.heap.size) wo179 (xa3) (SP) (xc3)) := by rw [hwo179]; exact (L167.out.al (by omega) (.cells #[.bool false, .slice xa4 SQ.length xc4, .slice ya4 DQ.length yc4] 24))
  have L190 : Hid (MidC (wo121.heap.size) (v7.heap.size) wo179 (ya3) (DP) (yc3)) := by rw [hwo179]; exact (L168.out.al (by omega) (.cells #[.bool false, .slice xa4 SQ.length xc4, .slice ya4 DQ.length yc4] 24))
  have L191 : Hid (MidC (wo147.heap.size) (v8.heap.size) wo179 (xa4) (SQ) (xc4)) := by rw [hwo179]; exact (L170.out.al (by omega) (.cells #[.bool false, .slice xa4 SQ.length xc4, .slice ya4 DQ.length yc4] 24))
  have L192 : Hid (MidC (wo147.heap.size) (v8.heap.size) wo179 (ya4) (DQ) (yc4)) := by rw [hwo179]; exact (L171.out.al (by omega) (.cells #[.bool false, .slice xa4 SQ.length xc4, .slice ya4 DQ.length yc4] 24))
  have hb193 : Hid (Below w.heap.size w wo179) := by rw [hwo179]; exact (hb169.out.alloc (by omega) (.cells #[.bool false, .slice xa4 SQ.length xc4, .slice ya4 DQ.length yc4] 24))
  have zwo179 : w.heap.size ≤ wo179.heap.size := hb193.out.size
  clear hwo179 n172 l173 l174 l175 l176 l177 l178 hb169 B160 B161 B162 B163 B164 L165 L166 L167 L168 L170 L171
  refine (jn_ok 0 (by unfold In64; decide) false xa3 xc3 SP ya3 yc3 DP false xa4 xc4 SQ ya4 yc4 DQ _ (by omega) (by omega) (L189.out.is (by omega)) (L190.out.is (by omega)) HTT.out.1 (by omega) (by omega) (L191.out.is (by omega)) (L192.out.is (by omega)) HTT.out.2 SY DY HJn HR4.out).mono ?_
  rintro e v9 ⟨xa5, xc5, ya5, yc5, rfl, hX5, hY5, hB⟩
  have z194 : wo179.heap.size ≤ v9.heap.size := hB.size
  have B195 : Hid (Abx v9 (w.heap.size) (.bool false) (.slice sa1 sz1.length sc1) (.slice da1 dz1.length dc1)) := B181.out.go hB
  have B196 : Hid (Abx v9 (w.heap.size + 1) (.bool c2) (.slice sa2 sz2.length sc2) (.slice da2 dz2.length dc2)) := B182.out.go hB
  have B197 : Hid (Abx v9 (w.heap.size + 1 + 1) (.bool false) (.slice sa3 sz3.length sc3) (.slice da3 dz3.length dc3)) := B183.out.go hB
  have B198 : Hid (Abx v9 (v6.heap.size) (.bool false) (.slice xa2 SY.length xc2) (.slice ya2 DY.length yc2)) := B184.out.go hB
  have B199 : Hid (Abx v9 (v7.heap.size) (.bool false) (.slice xa3 SP.length xc3) (.slice ya3 DP.length yc3)) := B185.out.go hB
  have B200 : Hid (Abx v9 (v8.heap.size) (.bool false) (.slice xa4 SQ.length xc4) (.slice ya4 DQ.length yc4)) := B186.out.go hB
  have L201 : Hid (MidC (wo95.heap.size) (v6.heap.size) v9 (xa2) (SY) (xc2)) := L187.out.go (by omega) hB
  have L202 : Hid (MidC (wo95.heap.size) (v6.heap.size) v9 (ya2) (DY) (yc2)) := L188.out.go (by omega) hB
  have L203 : Hid (MidC (wo121.heap.size) (v7.heap.size) v9 (xa3) (SP) (xc3)) := L189.out.go (by omega) hB
  have L204 : Hid (MidC (wo121.heap.size) (v7.heap.size) v9 (ya3) (DP) (yc3)) := L190.out.go (by omega) hB
  have L205 : Hid (MidC (wo147.heap.size) (v8.heap.size) v9 (xa4) (SQ) (xc4)) := L191.out.go (by omega) hB
  have L206 : Hid (MidC (wo147.heap.size) (v8.heap.size) v9 (ya4) (DQ) (yc4)) := L192.out.go (by omega) hB
  have hb207 : Hid (Below w.heap.size w v9) := hb193.out.trans (hB.mono hb193.out.size)
  have L208 : Hid (MidC (wo179.heap.size) (v9.heap.size) v9 (xa5) (SY) (xc5)) := hX5.midc
  have L209 : Hid (MidC (wo179.heap.size) (v9.heap.size) v9 (ya5) (DY) (yc5)) := hY5.midc
  clear hB hb193 B181 B182 B183 B184 B185 B186 L187 L188 L189 L190 L191 L192 hX5 hY5
  clear L203 L204 L205 L206 B199 B200
  have n210 := Abx.new v9 (.bool false) (.slice xa5 SY.length xc5) (.slice ya5 DY.length yc5)
  have l211 := ((B198.out.al (.cells #[.bool false, .slice xa5 SY.length xc5, .slice ya5 DY.length yc5] 24))).c0
  have l212 := ((B198.out.al (.cells #[.bool false, .slice xa5 SY.length xc5, .slice ya5 DY.length yc5] 24))).c1
  have l213 := ((B198.out.al (.cells #[.bool false, .slice xa5 SY.length xc5, .slice ya5 DY.length yc5] 24))).c2
  have l214 := (n210).c0
  have l215 := (n210).c1
  have l216 := (n210).c2
  go_wp2_with fail
  obtain ⟨wo217, hwo217⟩ : ∃ wo217, wo217 = (v9.alloc (.cells #[.bool false, .slice xa5 SY.length xc5, .slice ya5 DY.length yc5] 24)) := ⟨_, rfl⟩
  rw [← hwo217]
  have z218 : v9.heap.size + 1 ≤ wo217.heap.size := by rw [hwo217]; simp only [World.size_alloc]; omega
  have B219 : Hid (Abx wo217 (w.heap.size) (.bool false) (.slice sa1 sz1.length sc1) (.slice da1 dz1.length dc1)) := by rw [hwo217]; exact (B195.out.al (.cells #[.bool false, .slice xa5 SY.length xc5, .slice ya5 DY.length yc5] 24))
  have B220 : Hid (Abx wo217 (w.heap.size + 1) (.bool c2) (.slice sa2 sz2.length sc2) (.slice da2 dz2.length dc2)) := by rw [hwo217]; exact (B196.out.al (.cells #[.bool false, .slice xa5 SY.length xc5, .slice ya5 DY.length yc5] 24))
  have B221 : Hid (Abx wo217 (w.heap.size + 1 + 1) (.bool false) (.slice sa3 sz3.length sc3) (.slice da3 dz3.length dc3)) := by rw [hwo217]; exact (B197.out.al (.cells #[.bool false, .slice xa5 SY.length xc5, .slice ya5 DY.length yc5] 24))
  have B222 : Hid (Abx wo217 (v6.heap.size) (.bool false) (.slice xa2 SY.length xc2) (.slice ya2 DY.length yc2)) := by rw [hwo217]; exact (B198.out.al (.cells #[.bool false, .slice xa5 SY.length xc5, .slice ya5 DY.length yc5] 24))
  have B223 : Hid (Abx wo217 (v9.heap.size) (.bool false) (.slice xa5 SY.length xc5) (.slice ya5 DY.length yc5)) := by rw [hwo217]; exact n210
  have L224 : Hid (MidC (wo95.heap.size) (v6.heap.size) wo217 (xa2) (SY) (xc2)) := by rw [hwo217]; exact (L201.out.al (by omega) (.cells #[.bool false, .slice xa5 SY.length xc5, .slice ya5 DY.length yc5] 24))
  have L225 : Hid (MidC (wo95.heap.size) (v6.heap.size) wo217 (ya2) (DY) (yc2)) := by rw [hwo217]; exact (L202.out.al (by omega) (.cells #[.bool false, .slice xa5 SY.length xc5, .slice ya5 DY.length yc5] 24))
  have L226 : Hid (MidC (wo179.heap.size) (v9.heap.size) wo217 (xa5) (SY) (xc5)) := by rw [hwo217]; exact (L208.out.al (by omega) (.cells #[.bool false, .slice xa5 SY.length xc5, .slice ya5 DY.length yc5] 24))
  have L227 : Hid (MidC (wo179.heap.size) (v9.heap.size) wo217 (ya5) (DY) (yc5)) := by rw [hwo217]; exact (L209.out.al (by omega) (.cells #[.bool false, .slice xa5 SY.length xc5, .slice ya5 DY.length yc5] 24))
  have hb228 : Hid (Below w.heap.size w wo217) := by rw [hwo217]; exact (hb207.out.alloc (by omega) (.cells #[.bool false, .slice xa5 SY.length xc5, .slice ya5 DY.length yc5] 24))
  have zwo217 : w.heap.size ≤ wo217.heap.size := hb228.out.size
  clear hwo217 n210 l211 l212 l213 l214 l215 l216 hb207 B195 B196 B197 B198 L201 L202 L208 L209
  refine (alike_eq false xa2 xc2 SY ya2 yc2 DY xa5 xc5 SY ya5 yc5 DY rfl rfl (by omega) (by omega) _ (L224.out.is (by omega)) (L225.out.is (by omega)).1 (L226.out.is (by omega)) (L227.out.is (by omega)).1).mono ?_
  rintro e v10 ⟨rfl, hB⟩
  have z229 : wo217.heap.size ≤ v10.heap.size := hB.size
  have B230 : Hid (Abx v10 (w.heap.size) (.bool false) (.slice sa1 sz1.length sc1) (.slice da1 dz1.length dc1)) := B219.out.go hB
  have B231 : Hid (Abx v10 (w.heap.size + 1) (.bool c2) (.slice sa2 sz2.length sc2) (.slice da2 dz2.length dc2)) := B220.out.go hB
  have B232 : Hid (Abx v10 (w.heap.size + 1 + 1) (.bool false) (.slice sa3 sz3.length sc3) (.slice da3 dz3.length dc3)) := B221.out.go hB
  have B233 : Hid (Abx v10 (v6.heap.size) (.bool false) (.slice xa2 SY.length xc2) (.slice ya2 DY.length yc2)) := B222.out.go hB
  have B234 : Hid (Abx v10 (v9.heap.size) (.bool false) (.slice xa5 SY.length xc5) (.slice ya5 DY.length yc5)) := B223.out.go hB
  have L235 : Hid (MidC (wo95.heap.size) (v6.heap.size) v10 (xa2) (SY) (xc2)) := L224.out.go (by omega) hB
  have L236 : Hid (MidC (wo95.heap.size) (v6.heap.size) v10 (ya2) (DY) (yc2)) := L225.out.go (by omega) hB
  have L237 : Hid (MidC (wo179.heap.size) (v9.heap.size) v10 (xa5) (SY) (xc5)) := L226.out.go (by omega) hB
  have L238 : Hid (MidC (wo179.heap.size) (v9.heap.size) v10 (ya5) (DY) (yc5)) := L227.out.go (by omega) hB
  have hb239 : Hid (Below w.heap.size w v10) := hb228.out.trans (hB.mono hb228.out.size)
  clear hB hb228 B219 B220 B221 B222 B223 L224 L225 L226 L227
  clear L235 L236 L237 L238 B233 B234
  have l0 := B232.out.c0
  have l1 := B230.out.c0
  have l2 := B230.out.c1
  have l3 := B232.out.c1
  go_wp2_with fail
  go_ret
  exact ⟨rfl, hb239.out⟩
set_option maxRecDepth 100000 in
set_option maxHeartbeats 8000000 in
theorem parts_l3 (HOt : COt) (HJn : CJn) (HRd : CRd) (H2 : C2d) (f : Int) (hf : In64 f) (c1 : Bool) (sa1 : Option Addr) (sc1 : Nat) (sz1 : List Int) (da1 : Option Addr) (dc1 : Nat) (dz1 : List Int) (c2 : Bool) (sa2 : Option Addr) (sc2 : Nat) (sz2 : List Int) (da2 : Option Addr) (dc2 : Nat) (dz2 : List Int) (c3 : Bool) (sa3 : Option Addr) (sc3 : Nat) (sz3 : List Int) (da3 : Option Addr) (dc3 : Nat) (dz3 : List Int) (w : World) (w8 : IsArrD w sa1 sz1 sc1 da1 dz1 dc1) (w9 : IsArrD w sa2 sz2 sc2 da2 dz2 dc2) (w10 : IsArrD w sa3 sz3 sc3 da3 dz3 dc3) (J : Hid (jnE 0 c1 sz1 dz1 c2 sz2 dz2 = 0)) (O : ∀ S0 D0, jnS (0 : Int).toNat sz1 sz2 = S0 → jnD (0 : Int).toNat sz1 dz1 sz2 dz2 = D0 → otE f c1 S0 D0 c3 sz3 dz3 = 0) (hc3 : c3 = false) (hc1 : c1 = false) (F1 : Hid (sz1.length = 1)) (F3 : Hid (sz3.length ≠ 1)) :
    Calls Try.prog 4 #[.int .i64 f, .agg #[.bool c1, .slice sa1 sz1.length sc1, .slice da1 dz1.length dc1], .agg #[.bool c2, .slice sa2 sz2.length sc2, .slice da2 dz2.length dc2], .agg #[.bool c3, .slice sa3 sz3.length sc3, .slice da3 dz3.length dc3]] w fun e w' => e = .returned (.bool true) ∧ Below w.heap.size w w' := by
  subst hc3
  subst hc1
  have t1 : ((sz1.length : Int) != 1) = false := by rw [F1.out]; rfl
  have t3 : ((sz3.length : Int) != 1) = true := by have := F3.out; simp; omega
  obtain ⟨S0, hS0⟩ : ∃ S0, jnS (0 : Int).toNat sz1 sz2 = S0 := ⟨_, rfl⟩
  obtain ⟨D0, hD0⟩ : ∃ D0, jnD (0 : Int).toNat sz1 dz1 sz2 dz2 = D0 := ⟨_, rfl⟩
  have HJ : Hid (jnE 0 false sz1 dz1 c2 sz2 dz2 = 0 ∧ jnS (0 : Int).toNat sz1 sz2 = S0 ∧ jnD (0 : Int).toNat sz1 dz1 sz2 dz2 = D0) := ⟨J.out, hS0, hD0⟩
  have HJT : Hid (∀ j, In64 (nth D0 j)) := by rw [← hD0]; exact jn_64 J.out w8.2.2.2.2.2 w9.2.2.2.2.2
  have LJ : S0.length ≤ 4096 ∧ D0.length ≤ 4096 := by rw [← hS0, ← hD0]; exact jn_short13 J.out
  obtain ⟨SY, DY, SP, DP, SQ, DQ, R1, R2, R3, R4, TT, L1, L2, L3⟩ := parts13 J.out hS0 hD0 (O _ _ hS0 hD0) w8.2.2.2.2.2 w9.2.2.2.2.2 w10.2.2.2.2.2
  have HR1 : Hid (_) := R1
  have HR2 : Hid (_) := R2
  have HR3 : Hid (_) := R3
  have HR4 : Hid (_) := R4
  have HTT : Hid (_) := TT
  clear R1 R2 R3 R4 TT O hS0 hD0
  obtain ⟨x11, x12, x3, x4, s64, T⟩ := w8
  have HI1 : Hid (IsC w.heap.size w sa1 sz1 sc1 ∧ IsC w.heap.size w da1 dz1 dc1 ∧ (∀ j, In64 (nth sz1 j)) ∧ ∀ j, In64 (nth dz1 j)) := ⟨x3, x4, s64, T⟩
  clear x3 x4 T s64
  obtain ⟨x21, x22, x3, x4, s64, T⟩ := w9
  have HI2 : Hid (IsC w.heap.size w sa2 sz2 sc2 ∧ IsC w.heap.size w da2 dz2 dc2 ∧ (∀ j, In64 (nth sz2 j)) ∧ ∀ j, In64 (nth dz2 j)) := ⟨x3, x4, s64, T⟩
  clear x3 x4 T s64
  obtain ⟨x31, x32, x3, x4, s64, T⟩ := w10
  have HI3 : Hid (IsC w.heap.size w sa3 sz3 sc3 ∧ IsC w.heap.size w da3 dz3 dc3 ∧ (∀ j, In64 (nth sz3 j)) ∧ ∀ j, In64 (nth dz3 j)) := ⟨x3, x4, s64, T⟩
  clear x3 x4 T s64
  have n1 := Abx.new w (.bool false) (.slice sa1 sz1.length sc1) (.slice da1 dz1.length dc1)
  have n2 := Abx.new (w.alloc (.cells #[.bool false, .slice sa1 sz1.length sc1, .slice da1 dz1.length dc1] 24)) (.bool c2) (.slice sa2 sz2.length sc2) (.slice da2 dz2.length dc2)
  simp only [World.size_alloc] at n2
  have n3 := Abx.new ((w.alloc (.cells #[.bool false, .slice sa1 sz1.length sc1, .slice da1 dz1.length dc1] 24)).alloc (.cells #[.bool c2, .slice sa2 sz2.length sc2, .slice da2 dz2.length dc2] 24)) (.bool false) (.slice sa3 sz3.length sc3) (.slice da3 dz3.length dc3)
  simp only [World.size_alloc] at n3
  have n4 := lit_mid (((w.alloc (.cells #[.bool false, .slice sa1 sz1.length sc1, .slice da1 dz1.length dc1] 24)).alloc (.cells #[.bool c2, .slice sa2 sz2.length sc2, .slice da2 dz2.length dc2] 24)).alloc (.cells #[.bool false, .slice sa3 sz3.length sc3, .slice da3 dz3.length dc3] 24)) 3 [5, 7] 2 rfl
  simp only [World.size_alloc, List.map_cons, List.map_nil] at n4
  go_enter Try.func4, Try.ntmps4
  go_wp2_with fail
  obtain ⟨wo5, hwo5⟩ : ∃ wo5, wo5 = ((((w.alloc (.cells #[.bool false, .slice sa1 sz1.length sc1, .slice da1 dz1.length dc1] 24)).alloc (.cells #[.bool c2, .slice sa2 sz2.length sc2, .slice da2 dz2.length dc2] 24)).alloc (.cells #[.bool false, .slice sa3 sz3.length sc3, .slice da3 dz3.length dc3] 24)).alloc (.cells #[.int .i64 5, .int .i64 7] 3)) := ⟨_, rfl⟩
  rw [← hwo5]
  have z6 : w.heap.size + 1 + 1 + 1 + 1 ≤ wo5.heap.size := by rw [hwo5]; simp only [World.size_alloc]; omega
  have B7 : Hid (Abx wo5 (w.heap.size) (.bool false) (.slice sa1 sz1.length sc1) (.slice da1 dz1.length dc1)) := by rw [hwo5]; exact (((n1.al (.cells #[.bool c2, .slice sa2 sz2.length sc2, .slice da2 dz2.length dc2] 24)).al (.cells #[.bool false, .slice sa3 sz3.length sc3, .slice da3 dz3.length dc3] 24)).al (.cells #[.int .i64 5, .int .i64 7] 3))
  have B8 : Hid (Abx wo5 (w.heap.size + 1) (.bool c2) (.slice sa2 sz2.length sc2) (.slice da2 dz2.length dc2)) := by rw [hwo5]; exact ((n2.al (.cells #[.bool false, .slice sa3 sz3.length sc3, .slice da3 dz3.length dc3] 24)).al (.cells #[.int .i64 5, .int .i64 7] 3))
  have B9 : Hid (Abx wo5 (w.heap.size + 1 + 1) (.bool false) (.slice sa3 sz3.length sc3) (.slice da3 dz3.length dc3)) := by rw [hwo5]; exact (n3.al (.cells #[.int .i64 5, .int .i64 7] 3))
  have L10 : Hid (MidC (w.heap.size + 1 + 1 + 1) (w.heap.size + 1 + 1 + 1 + 1) wo5 (some ⟨w.heap.size + 1 + 1 + 1, 0, none⟩) ([5, 7]) (2)) := by rw [hwo5]; exact n4
  have hb11 : Hid (Below w.heap.size w wo5) := by rw [hwo5]; exact (((((Below.refl w.heap.size w).alloc (by omega) (.cells #[.bool false, .slice sa1 sz1.length sc1, .slice da1 dz1.length dc1] 24)).alloc (by simp only [World.size_alloc]; omega) (.cells #[.bool c2, .slice sa2 sz2.length sc2, .slice da2 dz2.length dc2] 24)).alloc (by simp only [World.size_alloc]; omega) (.cells #[.bool false, .slice sa3 sz3.length sc3, .slice da3 dz3.length dc3] 24)).alloc (by simp only [World.size_alloc]; omega) (.cells #[.int .i64 5, .int .i64 7] 3))
  have zwo5 : w.heap.size ≤ wo5.heap.size := hb11.out.size
  clear hwo5 n1 n2 n3 n4
  refine (vec_c (some ⟨w.heap.size + 1 + 1 + 1, 0, none⟩) 2 [5, 7] (by simp) _ (L10.out.is (by omega)).1).mono ?_
  rintro e v1 ⟨vap, vcp, gap, gcp, rfl, hVp, hGp, hB⟩
  have z12 : wo5.heap.size ≤ v1.heap.size := hB.size
  have B13 : Hid (Abx v1 (w.heap.size) (.bool false) (.slice sa1 sz1.length sc1) (.slice da1 dz1.length dc1)) := B7.out.go hB
  have B14 : Hid (Abx v1 (w.heap.size + 1) (.bool c2) (.slice sa2 sz2.length sc2) (.slice da2 dz2.length dc2)) := B8.out.go hB
  have B15 : Hid (Abx v1 (w.heap.size + 1 + 1) (.bool false) (.slice sa3 sz3.length sc3) (.slice da3 dz3.length dc3)) := B9.out.go hB
  have L16 : Hid (MidC (w.heap.size + 1 + 1 + 1) (w.heap.size + 1 + 1 + 1 + 1) v1 (some ⟨w.heap.size + 1 + 1 + 1, 0, none⟩) ([5, 7]) (2)) := L10.out.go (by omega) hB
  have hb17 : Hid (Below w.heap.size w v1) := hb11.out.trans (hB.mono hb11.out.size)
  have L18 : Hid (MidC (wo5.heap.size) (v1.heap.size) v1 (vap) ([(2 : Int)]) (vcp)) := hVp.midc
  have L19 : Hid (MidC (wo5.heap.size) (v1.heap.size) v1 (gap) ([5, 7]) (gcp)) := hGp.midc
  clear hB hb11 B7 B8 B9 L10 hVp hGp
  clear L16
  have n20 := lit_mid v1 3 [1, 2] 2 rfl
  simp only [List.map_cons, List.map_nil] at n20
  go_wp2_with fail
  obtain ⟨wo21, hwo21⟩ : ∃ wo21, wo21 = (v1.alloc (.cells #[.int .i64 1, .int .i64 2] 3)) := ⟨_, rfl⟩
  rw [← hwo21]
  have z22 : v1.heap.size + 1 ≤ wo21.heap.size := by rw [hwo21]; simp only [World.size_alloc]; omega
  have B23 : Hid (Abx wo21 (w.heap.size) (.bool false) (.slice sa1 sz1.length sc1) (.slice da1 dz1.length dc1)) := by rw [hwo21]; exact (B13.out.al (.cells #[.int .i64 1, .int .i64 2] 3))
  have B24 : Hid (Abx wo21 (w.heap.size + 1) (.bool c2) (.slice sa2 sz2.length sc2) (.slice da2 dz2.length dc2)) := by rw [hwo21]; exact (B14.out.al (.cells #[.int .i64 1, .int .i64 2] 3))
  have B25 : Hid (Abx wo21 (w.heap.size + 1 + 1) (.bool false) (.slice sa3 sz3.length sc3) (.slice da3 dz3.length dc3)) := by rw [hwo21]; exact (B15.out.al (.cells #[.int .i64 1, .int .i64 2] 3))
  have L26 : Hid (MidC (wo5.heap.size) (v1.heap.size) wo21 (vap) ([(2 : Int)]) (vcp)) := by rw [hwo21]; exact (L18.out.al (by omega) (.cells #[.int .i64 1, .int .i64 2] 3))
  have L27 : Hid (MidC (wo5.heap.size) (v1.heap.size) wo21 (gap) ([5, 7]) (gcp)) := by rw [hwo21]; exact (L19.out.al (by omega) (.cells #[.int .i64 1, .int .i64 2] 3))
  have L28 : Hid (MidC (v1.heap.size) (v1.heap.size + 1) wo21 (some ⟨v1.heap.size, 0, none⟩) ([1, 2]) (2)) := by rw [hwo21]; exact n20
  have hb29 : Hid (Below w.heap.size w wo21) := by rw [hwo21]; exact (hb17.out.alloc (by omega) (.cells #[.int .i64 1, .int .i64 2] 3))
  have zwo21 : w.heap.size ≤ wo21.heap.size := hb29.out.size
  clear hwo21 n20 hb17 B13 B14 B15 L18 L19
  refine (vec_c (some ⟨v1.heap.size, 0, none⟩) 2 [1, 2] (by simp) _ (L28.out.is (by omega)).1).mono ?_
  rintro e v2 ⟨vaq, vcq, gaq, gcq, rfl, hVq, hGq, hB⟩
  have z30 : wo21.heap.size ≤ v2.heap.size := hB.size
  have B31 : Hid (Abx v2 (w.heap.size) (.bool false) (.slice sa1 sz1.length sc1) (.slice da1 dz1.length dc1)) := B23.out.go hB
  have B32 : Hid (Abx v2 (w.heap.size + 1) (.bool c2) (.slice sa2 sz2.length sc2) (.slice da2 dz2.length dc2)) := B24.out.go hB
  have B33 : Hid (Abx v2 (w.heap.size + 1 + 1) (.bool false) (.slice sa3 sz3.length sc3) (.slice da3 dz3.length dc3)) := B25.out.go hB
  have L34 : Hid (MidC (wo5.heap.size) (v1.heap.size) v2 (vap) ([(2 : Int)]) (vcp)) := L26.out.go (by omega) hB
  have L35 : Hid (MidC (wo5.heap.size) (v1.heap.size) v2 (gap) ([5, 7]) (gcp)) := L27.out.go (by omega) hB
  have L36 : Hid (MidC (v1.heap.size) (v1.heap.size + 1) v2 (some ⟨v1.heap.size, 0, none⟩) ([1, 2]) (2)) := L28.out.go (by omega) hB
  have hb37 : Hid (Below w.heap.size w v2) := hb29.out.trans (hB.mono hb29.out.size)
  have L38 : Hid (MidC (wo21.heap.size) (v2.heap.size) v2 (vaq) ([(2 : Int)]) (vcq)) := hVq.midc
  have L39 : Hid (MidC (wo21.heap.size) (v2.heap.size) v2 (gaq) ([1, 2]) (gcq)) := hGq.midc
  clear hB hb29 B23 B24 B25 L26 L27 L28 hVq hGq
  clear L36
  go_wp2_with fail
  refine (otw_ok 2 false vap vcp [(2 : Int)] 1 rfl gap gcp [5, 7] 2 rfl false vaq vcq [(2 : Int)] 1 rfl gaq gcq [1, 2] 2 rfl _ (by unfold In64; decide) (by decide) (by decide) (L34.out.is (by omega)).1 (L35.out.is (by omega)).1 (lit12 (by decide)) (by decide) (by decide) (L38.out.is (by omega)).1 (L39.out.is (by omega)).1 (lit12 (by decide)) [2, 2] [4, 3, 6, 5] HOt (by show otE 2 false [2] [5, 7] false [2] [1, 2] = 0 ∧ [(2 : Int)] ++ [2] = [2, 2] ∧ otD 2 false [2] [5, 7] false [2] [1, 2] = [4, 3, 6, 5]; decide +kernel)).mono ?_
  rintro e v3 ⟨f1, g1, f2, g2, rfl, hX0, hY0, hB⟩
  have z40 : v2.heap.size ≤ v3.heap.size := hB.size
  have B41 : Hid (Abx v3 (w.heap.size) (.bool false) (.slice sa1 sz1.length sc1) (.slice da1 dz1.length dc1)) := B31.out.go hB
  have B42 : Hid (Abx v3 (w.heap.size + 1) (.bool c2) (.slice sa2 sz2.length sc2) (.slice da2 dz2.length dc2)) := B32.out.go hB
  have B43 : Hid (Abx v3 (w.heap.size + 1 + 1) (.bool false) (.slice sa3 sz3.length sc3) (.slice da3 dz3.length dc3)) := B33.out.go hB
  have L44 : Hid (MidC (wo5.heap.size) (v1.heap.size) v3 (vap) ([(2 : Int)]) (vcp)) := L34.out.go (by omega) hB
  have L45 : Hid (MidC (wo5.heap.size) (v1.heap.size) v3 (gap) ([5, 7]) (gcp)) := L35.out.go (by omega) hB
  have L46 : Hid (MidC (wo21.heap.size) (v2.heap.size) v3 (vaq) ([(2 : Int)]) (vcq)) := L38.out.go (by omega) hB
  have L47 : Hid (MidC (wo21.heap.size) (v2.heap.size) v3 (gaq) ([1, 2]) (gcq)) := L39.out.go (by omega) hB
  have hb48 : Hid (Below w.heap.size w v3) := hb37.out.trans (hB.mono hb37.out.size)
  have L49 : Hid (MidC (v2.heap.size) (v3.heap.size) v3 (f1) ([2, 2]) (g1)) := hX0.midc
  have L50 : Hid (MidC (v2.heap.size) (v3.heap.size) v3 (f2) ([4, 3, 6, 5]) (g2)) := hY0.midc
  clear hB hb37 B31 B32 B33 L34 L35 L38 L39 hX0 hY0
  clear L44 L45 L46 L47
  have n51 := Abx.new v3 (.bool false) (.slice f1 2 g1) (.slice f2 4 g2)
  have l52 := (n51).c0
  have l53 := (n51).c1
  have l54 := (n51).c2
  have n55 := lit_mid (v3.alloc (.cells #[.bool false, .slice f1 2 g1, .slice f2 4 g2] 24)) 3 [4, 3, 6, 5] 4 rfl
  simp only [World.size_alloc, List.map_cons, List.map_nil] at n55
  go_wp2_with fail
  obtain ⟨wo56, hwo56⟩ : ∃ wo56, wo56 = ((v3.alloc (.cells #[.bool false, .slice f1 2 g1, .slice f2 4 g2] 24)).alloc (.cells #[.int .i64 4, .int .i64 3, .int .i64 6, .int .i64 5] 3)) := ⟨_, rfl⟩
  rw [← hwo56]
  have z57 : v3.heap.size + 1 + 1 ≤ wo56.heap.size := by rw [hwo56]; simp only [World.size_alloc]; omega
  have B58 : Hid (Abx wo56 (w.heap.size) (.bool false) (.slice sa1 sz1.length sc1) (.slice da1 dz1.length dc1)) := by rw [hwo56]; exact ((B41.out.al (.cells #[.bool false, .slice f1 2 g1, .slice f2 4 g2] 24)).al (.cells #[.int .i64 4, .int .i64 3, .int .i64 6, .int .i64 5] 3))
  have B59 : Hid (Abx wo56 (w.heap.size + 1) (.bool c2) (.slice sa2 sz2.length sc2) (.slice da2 dz2.length dc2)) := by rw [hwo56]; exact ((B42.out.al (.cells #[.bool false, .slice f1 2 g1, .slice f2 4 g2] 24)).al (.cells #[.int .i64 4, .int .i64 3, .int .i64 6, .int .i64 5] 3))
  have B60 : Hid (Abx wo56 (w.heap.size + 1 + 1) (.bool false) (.slice sa3 sz3.length sc3) (.slice da3 dz3.length dc3)) := by rw [hwo56]; exact ((B43.out.al (.cells #[.bool false, .slice f1 2 g1, .slice f2 4 g2] 24)).al (.cells #[.int .i64 4, .int .i64 3, .int .i64 6, .int .i64 5] 3))
  have B61 : Hid (Abx wo56 (v3.heap.size) (.bool false) (.slice f1 2 g1) (.slice f2 4 g2)) := by rw [hwo56]; exact (n51.al (.cells #[.int .i64 4, .int .i64 3, .int .i64 6, .int .i64 5] 3))
  have L62 : Hid (MidC (v2.heap.size) (v3.heap.size) wo56 (f1) ([2, 2]) (g1)) := by rw [hwo56]; exact ((L49.out.al (by omega) (.cells #[.bool false, .slice f1 2 g1, .slice f2 4 g2] 24)).al (by simp only [World.size_alloc]; omega) (.cells #[.int .i64 4, .int .i64 3, .int .i64 6, .int .i64 5] 3))
  have L63 : Hid (MidC (v2.heap.size) (v3.heap.size) wo56 (f2) ([4, 3, 6, 5]) (g2)) := by rw [hwo56]; exact ((L50.out.al (by omega) (.cells #[.bool false, .slice f1 2 g1, .slice f2 4 g2] 24)).al (by simp only [World.size_alloc]; omega) (.cells #[.int .i64 4, .int .i64 3, .int .i64 6, .int .i64 5] 3))
  have L64 : Hid (MidC (v3.heap.size + 1) (v3.heap.size + 1 + 1) wo56 (some ⟨v3.heap.size + 1, 0, none⟩) ([4, 3, 6, 5]) (4)) := by rw [hwo56]; exact n55
  have hb65 : Hid (Below w.heap.size w wo56) := by rw [hwo56]; exact ((hb48.out.alloc (by omega) (.cells #[.bool false, .slice f1 2 g1, .slice f2 4 g2] 24)).alloc (by simp only [World.size_alloc]; omega) (.cells #[.int .i64 4, .int .i64 3, .int .i64 6, .int .i64 5] 3))
  have zwo56 : w.heap.size ≤ wo56.heap.size := hb65.out.size
  clear hwo56 n51 l52 l53 l54 n55 hb48 B41 B42 B43 L49 L50
  refine (ints_any f2 g2 [4, 3, 6, 5] (some ⟨v3.heap.size + 1, 0, none⟩) 4 [4, 3, 6, 5] (by simp) _ _ (L63.out.is (by omega)).1 (L64.out.is (by omega)).1).mono ?_
  rintro e v4 ⟨rfl, hB⟩
  have z66 : wo56.heap.size ≤ v4.heap.size := hB.size
  have B67 : Hid (Abx v4 (w.heap.size) (.bool false) (.slice sa1 sz1.length sc1) (.slice da1 dz1.length dc1)) := B58.out.go hB
  have B68 : Hid (Abx v4 (w.heap.size + 1) (.bool c2) (.slice sa2 sz2.length sc2) (.slice da2 dz2.length dc2)) := B59.out.go hB
  have B69 : Hid (Abx v4 (w.heap.size + 1 + 1) (.bool false) (.slice sa3 sz3.length sc3) (.slice da3 dz3.length dc3)) := B60.out.go hB
  have B70 : Hid (Abx v4 (v3.heap.size) (.bool false) (.slice f1 2 g1) (.slice f2 4 g2)) := B61.out.go hB
  have L71 : Hid (MidC (v2.heap.size) (v3.heap.size) v4 (f1) ([2, 2]) (g1)) := L62.out.go (by omega) hB
  have L72 : Hid (MidC (v2.heap.size) (v3.heap.size) v4 (f2) ([4, 3, 6, 5]) (g2)) := L63.out.go (by omega) hB
  have L73 : Hid (MidC (v3.heap.size + 1) (v3.heap.size + 1 + 1) v4 (some ⟨v3.heap.size + 1, 0, none⟩) ([4, 3, 6, 5]) (4)) := L64.out.go (by omega) hB
  have hb74 : Hid (Below w.heap.size w v4) := hb65.out.trans (hB.mono hb65.out.size)
  clear hB hb65 B58 B59 B60 B61 L62 L63 L64
  rw [eqB_true rfl]
  clear L71 L72 L73 B70
  have l75 := (B67.out).c0
  have l76 := (B67.out).c1
  have l77 := (B67.out).c2
  have l78 := (B68.out).c0
  have l79 := (B68.out).c1
  have l80 := (B68.out).c2
  go_wp2_with fail
  clear l75 l76 l77 l78 l79 l80
  refine (jn_ok 0 (by unfold In64; decide) false sa1 sc1 sz1 da1 dc1 dz1 c2 sa2 sc2 sz2 da2 dc2 dz2 _ x11 x12 ((HI1.out.1.below hb74.out).mono hb74.out.size) ((HI1.out.2.1.below hb74.out).mono hb74.out.size) HI1.out.2.2.2 x21 x22 ((HI2.out.1.below hb74.out).mono hb74.out.size) ((HI2.out.2.1.below hb74.out).mono hb74.out.size) HI2.out.2.2.2 S0 D0 HJn HJ.out).mono ?_
  rintro e v5 ⟨xa1, xc1, ya1, yc1, rfl, hX1, hY1, hB⟩
  have z81 : v4.heap.size ≤ v5.heap.size := hB.size
  have B82 : Hid (Abx v5 (w.heap.size) (.bool false) (.slice sa1 sz1.length sc1) (.slice da1 dz1.length dc1)) := B67.out.go hB
  have B83 : Hid (Abx v5 (w.heap.size + 1) (.bool c2) (.slice sa2 sz2.length sc2) (.slice da2 dz2.length dc2)) := B68.out.go hB
  have B84 : Hid (Abx v5 (w.heap.size + 1 + 1) (.bool false) (.slice sa3 sz3.length sc3) (.slice da3 dz3.length dc3)) := B69.out.go hB
  have hb85 : Hid (Below w.heap.size w v5) := hb74.out.trans (hB.mono hb74.out.size)
  have L86 : Hid (MidC (v4.heap.size) (v5.heap.size) v5 (xa1) (S0) (xc1)) := hX1.midc
  have L87 : Hid (MidC (v4.heap.size) (v5.heap.size) v5 (ya1) (D0) (yc1)) := hY1.midc
  clear hB hb74 B67 B68 B69 hX1 hY1
  have n88 := Abx.new v5 (.bool false) (.slice xa1 S0.length xc1) (.slice ya1 D0.length yc1)
  have l89 := (n88).c0
  have l90 := (n88).c1
  have l91 := (n88).c2
  have l92 := ((B84.out.al (.cells #[.bool false, .slice xa1 S0.length xc1, .slice ya1 D0.length yc1] 24))).c0
  have l93 := ((B84.out.al (.cells #[.bool false, .slice xa1 S0.length xc1, .slice ya1 D0.length yc1] 24))).c1
  have l94 := ((B84.out.al (.cells #[.bool false, .slice xa1 S0.length xc1, .slice ya1 D0.length yc1] 24))).c2
  go_wp2_with fail
  obtain ⟨wo95, hwo95⟩ : ∃ wo95, wo95 = (v5.alloc (.cells #[.bool false, .slice xa1 S0.length xc1, .slice ya1 D0.length yc1] 24)) := ⟨_, rfl⟩
  rw [← hwo95]
  have z96 : v5.heap.size + 1 ≤ wo95.heap.size := by rw [hwo95]; simp only [World.size_alloc]; omega
  have B97 : Hid (Abx wo95 (w.heap.size) (.bool false) (.slice sa1 sz1.length sc1) (.slice da1 dz1.length dc1)) := by rw [hwo95]; exact (B82.out.al (.cells #[.bool false, .slice xa1 S0.length xc1, .slice ya1 D0.length yc1] 24))
  have B98 : Hid (Abx wo95 (w.heap.size + 1) (.bool c2) (.slice sa2 sz2.length sc2) (.slice da2 dz2.length dc2)) := by rw [hwo95]; exact (B83.out.al (.cells #[.bool false, .slice xa1 S0.length xc1, .slice ya1 D0.length yc1] 24))
  have B99 : Hid (Abx wo95 (w.heap.size + 1 + 1) (.bool false) (.slice sa3 sz3.length sc3) (.slice da3 dz3.length dc3)) := by rw [hwo95]; exact (B84.out.al (.cells #[.bool false, .slice xa1 S0.length xc1, .slice ya1 D0.length yc1] 24))
  have B100 : Hid (Abx wo95 (v5.heap.size) (.bool false) (.slice xa1 S0.length xc1) (.slice ya1 D0.length yc1)) := by rw [hwo95]; exact n88
  have L101 : Hid (MidC (v4.heap.size) (v5.heap.size) wo95 (xa1) (S0) (xc1)) := by rw [hwo95]; exact (L86.out.al (by omega) (.cells #[.bool false, .slice xa1 S0.length xc1, .slice ya1 D0.length yc1] 24))
  have L102 : Hid (MidC (v4.heap.size) (v5.heap.size) wo95 (ya1) (D0) (yc1)) := by rw [hwo95]; exact (L87.out.al (by omega) (.cells #[.bool false, .slice xa1 S0.length xc1, .slice ya1 D0.length yc1] 24))
  have hb103 : Hid (Below w.heap.size w wo95) := by rw [hwo95]; exact (hb85.out.alloc (by omega) (.cells #[.bool false, .slice xa1 S0.length xc1, .slice ya1 D0.length yc1] 24))
  have zwo95 : w.heap.size ≤ wo95.heap.size := hb103.out.size
  clear hwo95 n88 l89 l90 l91 l92 l93 l94 hb85 B82 B83 B84 L86 L87
  refine (otw_ok f false xa1 xc1 S0 S0.length rfl ya1 yc1 D0 D0.length rfl false sa3 sc3 sz3 sz3.length rfl da3 dc3 dz3 dz3.length rfl _ hf (by omega) (by omega) (L101.out.is (by omega)).1 (L102.out.is (by omega)).1 HJT.out x31 x32 ((HI3.out.1.1.below hb103.out).mono hb103.out.size) ((HI3.out.2.1.1.below hb103.out).mono hb103.out.size) HI3.out.2.2.2 SY DY HOt HR1.out).mono ?_
  rintro e v6 ⟨xa2, xc2, ya2, yc2, rfl, hX2, hY2, hB⟩
  have z104 : wo95.heap.size ≤ v6.heap.size := hB.size
  have B105 : Hid (Abx v6 (w.heap.size) (.bool false) (.slice sa1 sz1.length sc1) (.slice da1 dz1.length dc1)) := B97.out.go hB
  have B106 : Hid (Abx v6 (w.heap.size + 1) (.bool c2) (.slice sa2 sz2.length sc2) (.slice da2 dz2.length dc2)) := B98.out.go hB
  have B107 : Hid (Abx v6 (w.heap.size + 1 + 1) (.bool false) (.slice sa3 sz3.length sc3) (.slice da3 dz3.length dc3)) := B99.out.go hB
  have B108 : Hid (Abx v6 (v5.heap.size) (.bool false) (.slice xa1 S0.length xc1) (.slice ya1 D0.length yc1)) := B100.out.go hB
  have L109 : Hid (MidC (v4.heap.size) (v5.heap.size) v6 (xa1) (S0) (xc1)) := L101.out.go (by omega) hB
  have L110 : Hid (MidC (v4.heap.size) (v5.heap.size) v6 (ya1) (D0) (yc1)) := L102.out.go (by omega) hB
  have hb111 : Hid (Below w.heap.size w v6) := hb103.out.trans (hB.mono hb103.out.size)
  have L112 : Hid (MidC (wo95.heap.size) (v6.heap.size) v6 (xa2) (SY) (xc2)) := hX2.midc
  have L113 : Hid (MidC (wo95.heap.size) (v6.heap.size) v6 (ya2) (DY) (yc2)) := hY2.midc
  clear hB hb103 B97 B98 B99 B100 L101 L102 hX2 hY2
  clear L109 L110 B108
  have n114 := Abx.new v6 (.bool false) (.slice xa2 SY.length xc2) (.slice ya2 DY.length yc2)
  have l115 := ((B105.out.al (.cells #[.bool false, .slice xa2 SY.length xc2, .slice ya2 DY.length yc2] 24))).c0
  have l116 := ((B105.out.al (.cells #[.bool false, .slice xa2 SY.length xc2, .slice ya2 DY.length yc2] 24))).c1
  have l117 := ((B105.out.al (.cells #[.bool false, .slice xa2 SY.length xc2, .slice ya2 DY.length yc2] 24))).c2
  have l118 := ((B107.out.al (.cells #[.bool false, .slice xa2 SY.length xc2, .slice ya2 DY.length yc2] 24))).c0
  have l119 := ((B107.out.al (.cells #[.bool false, .slice xa2 SY.length xc2, .slice ya2 DY.length yc2] 24))).c1
  have l120 := ((B107.out.al (.cells #[.bool false, .slice xa2 SY.length xc2, .slice ya2 DY.length yc2] 24))).c2
  go_wp2_with fail
  obtain ⟨wo121, hwo121⟩ : ∃ wo121, wo121 = (v6.alloc (.cells #[.bool false, .slice xa2 SY.length xc2, .slice ya2 DY.length yc2] 24)) := ⟨_, rfl⟩
  rw [← hwo121]
  have z122 : v6.heap.size + 1 ≤ wo121.heap.size := by rw [hwo121]; simp only [World.size_alloc]; omega
  have B123 : Hid (Abx wo121 (w.heap.size) (.bool false) (.slice sa1 sz1.length sc1) (.slice da1 dz1.length dc1)) := by rw [hwo121]; exact (B105.out.al (.cells #[.bool false, .slice xa2 SY.length xc2, .slice ya2 DY.length yc2] 24))
  have B124 : Hid (Abx wo121 (w.heap.size + 1) (.bool c2) (.slice sa2 sz2.length sc2) (.slice da2 dz2.length dc2)) := by rw [hwo121]; exact (B106.out.al (.cells #[.bool false, .slice xa2 SY.length xc2, .slice ya2 DY.length yc2] 24))
  have B125 : Hid (Abx wo121 (w.heap.size + 1 + 1) (.bool false) (.slice sa3 sz3.length sc3) (.slice da3 dz3.length dc3)) := by rw [hwo121]; exact (B107.out.al (.cells #[.bool false, .slice xa2 SY.length xc2, .slice ya2 DY.length yc2] 24))
  have B126 : Hid (Abx wo121 (v6.heap.size) (.bool false) (.slice xa2 SY.length xc2) (.slice ya2 DY.length yc2)) := by rw [hwo121]; exact n114
  have L127 : Hid (MidC (wo95.heap.size) (v6.heap.size) wo121 (xa2) (SY) (xc2)) := by rw [hwo121]; exact (L112.out.al (by omega) (.cells #[.bool false, .slice xa2 SY.length xc2, .slice ya2 DY.length yc2] 24))
  have L128 : Hid (MidC (wo95.heap.size) (v6.heap.size) wo121 (ya2) (DY) (yc2)) := by rw [hwo121]; exact (L113.out.al (by omega) (.cells #[.bool false, .slice xa2 SY.length xc2, .slice ya2 DY.length yc2] 24))
  have hb129 : Hid (Below w.heap.size w wo121) := by rw [hwo121]; exact (hb111.out.alloc (by omega) (.cells #[.bool false, .slice xa2 SY.length xc2, .slice ya2 DY.length yc2] 24))
  have zwo121 : w.heap.size ≤ wo121.heap.size := hb129.out.size
  clear hwo121 n114 l115 l116 l117 l118 l119 l120 hb111 B105 B106 B107 L112 L113
  refine (otw_ok f false sa1 sc1 sz1 sz1.length rfl da1 dc1 dz1 dz1.length rfl false sa3 sc3 sz3 sz3.length rfl da3 dc3 dz3 dz3.length rfl _ hf x11 x12 ((HI1.out.1.1.below hb129.out).mono hb129.out.size) ((HI1.out.2.1.1.below hb129.out).mono hb129.out.size) HI1.out.2.2.2 x31 x32 ((HI3.out.1.1.below hb129.out).mono hb129.out.size) ((HI3.out.2.1.1.below hb129.out).mono hb129.out.size) HI3.out.2.2.2 SP DP HOt HR2.out).mono ?_
  rintro e v7 ⟨xa3, xc3, ya3, yc3, rfl, hX3, hY3, hB⟩
  have z130 : wo121.heap.size ≤ v7.heap.size := hB.size
  have B131 : Hid (Abx v7 (w.heap.size) (.bool false) (.slice sa1 sz1.length sc1) (.slice da1 dz1.length dc1)) := B123.out.go hB
  have B132 : Hid (Abx v7 (w.heap.size + 1) (.bool c2) (.slice sa2 sz2.length sc2) (.slice da2 dz2.length dc2)) := B124.out.go hB
  have B133 : Hid (Abx v7 (w.heap.size + 1 + 1) (.bool false) (.slice sa3 sz3.length sc3) (.slice da3 dz3.length dc3)) := B125.out.go hB
  have B134 : Hid (Abx v7 (v6.heap.size) (.bool false) (.slice xa2 SY.length xc2) (.slice ya2 DY.length yc2)) := B126.out.go hB
  have L135 : Hid (MidC (wo95.heap.size) (v6.heap.size) v7 (xa2) (SY) (xc2)) := L127.out.go (by omega) hB
  have L136 : Hid (MidC (wo95.heap.size) (v6.heap.size) v7 (ya2) (DY) (yc2)) := L128.out.go (by omega) hB
  have hb137 : Hid (Below w.heap.size w v7) := hb129.out.trans (hB.mono hb129.out.size)
  have L138 : Hid (MidC (wo121.heap.size) (v7.heap.size) v7 (xa3) (SP) (xc3)) := hX3.midc
  have L139 : Hid (MidC (wo121.heap.size) (v7.heap.size) v7 (ya3) (DP) (yc3)) := hY3.midc
  clear hB hb129 B123 B124 B125 B126 L127 L128 hX3 hY3
  have n140 := Abx.new v7 (.bool false) (.slice xa3 SP.length xc3) (.slice ya3 DP.length yc3)
  have l141 := ((B132.out.al (.cells #[.bool false, .slice xa3 SP.length xc3, .slice ya3 DP.length yc3] 24))).c0
  have l142 := ((B132.out.al (.cells #[.bool false, .slice xa3 SP.length xc3, .slice ya3 DP.length yc3] 24))).c1
  have l143 := ((B132.out.al (.cells #[.bool false, .slice xa3 SP.length xc3, .slice ya3 DP.length yc3] 24))).c2
  have l144 := ((B133.out.al (.cells #[.bool false, .slice xa3 SP.length xc3, .slice ya3 DP.length yc3] 24))).c0
  have l145 := ((B133.out.al (.cells #[.bool false, .slice xa3 SP.length xc3, .slice ya3 DP.length yc3] 24))).c1
  have l146 := ((B133.out.al (.cells #[.bool false, .slice xa3 SP.length xc3, .slice ya3 DP.length yc3] 24))).c2
  go_wp2_with fail
  obtain ⟨wo147, hwo147⟩ : ∃ wo147, wo147 = (v7.alloc (.cells #[.bool false, .slice xa3 SP.length xc3, .slice ya3 DP.length yc3] 24)) := ⟨_, rfl⟩
  rw [← hwo147]
  have z148 : v7.heap.size + 1 ≤ wo147.heap.size := by rw [hwo147]; simp only [World.size_alloc]; omega
  have B149 : Hid (Abx wo147 (w.heap.size) (.bool false) (.slice sa1 sz1.length sc1) (.slice da1 dz1.length dc1)) := by rw [hwo147]; exact (B131.out.al (.cells #[.bool false, .slice xa3 SP.length xc3, .slice ya3 DP.length yc3] 24))
  have B150 : Hid (Abx wo147 (w.heap.size + 1) (.bool c2) (.slice sa2 sz2.length sc2) (.slice da2 dz2.length dc2)) := by rw [hwo147]; exact (B132.out.al (.cells #[.bool false, .slice xa3 SP.length xc3, .slice ya3 DP.length yc3] 24))
  have B151 : Hid (Abx wo147 (w.heap.size + 1 + 1) (.bool false) (.slice sa3 sz3.length sc3) (.slice da3 dz3.length dc3)) := by rw [hwo147]; exact (B133.out.al (.cells #[.bool false, .slice xa3 SP.length xc3, .slice ya3 DP.length yc3] 24))
  have B152 : Hid (Abx wo147 (v6.heap.size) (.bool false) (.slice xa2 SY.length xc2) (.slice ya2 DY.length yc2)) := by rw [hwo147]; exact (B134.out.al (.cells #[.bool false, .slice xa3 SP.length xc3, .slice ya3 DP.length yc3] 24))
  have B153 : Hid (Abx wo147 (v7.heap.size) (.bool false) (.slice xa3 SP.length xc3) (.slice ya3 DP.length yc3)) := by rw [hwo147]; exact n140
  have L154 : Hid (MidC (wo95.heap.size) (v6.heap.size) wo147 (xa2) (SY) (xc2)) := by rw [hwo147]; exact (L135.out.al (by omega) (.cells #[.bool false, .slice xa3 SP.length xc3, .slice ya3 DP.length yc3] 24))
  have L155 : Hid (MidC (wo95.heap.size) (v6.heap.size) wo147 (ya2) (DY) (yc2)) := by rw [hwo147]; exact (L136.out.al (by omega) (.cells #[.bool false, .slice xa3 SP.length xc3, .slice ya3 DP.length yc3] 24))
  have L156 : Hid (MidC (wo121.heap.size) (v7.heap.size) wo147 (xa3) (SP) (xc3)) := by rw [hwo147]; exact (L138.out.al (by omega) (.cells #[.bool false, .slice xa3 SP.length xc3, .slice ya3 DP.length yc3] 24))
  have L157 : Hid (MidC (wo121.heap.size) (v7.heap.size) wo147 (ya3) (DP) (yc3)) := by rw [hwo147]; exact (L139.out.al (by omega) (.cells #[.bool false, .slice xa3 SP.length xc3, .slice ya3 DP.length yc3] 24))
  have hb158 : Hid (Below w.heap.size w wo147) := by rw [hwo147]; exact (hb137.out.alloc (by omega) (.cells #[.bool false, .slice xa3 SP.length xc3, .slice ya3 DP.length yc3] 24))
  have zwo147 : w.heap.size ≤ wo147.heap.size := hb158.out.size
  clear hwo147 n140 l141 l142 l143 l144 l145 l146 hb137 B131 B132 B133 B134 L135 L136 L138 L139
  refine (otw_ok f c2 sa2 sc2 sz2 sz2.length rfl da2 dc2 dz2 dz2.length rfl false sa3 sc3 sz3 sz3.length rfl da3 dc3 dz3 dz3.length rfl _ hf x21 x22 ((HI2.out.1.1.below hb158.out).mono hb158.out.size) ((HI2.out.2.1.1.below hb158.out).mono hb158.out.size) HI2.out.2.2.2 x31 x32 ((HI3.out.1.1.below hb158.out).mono hb158.out.size) ((HI3.out.2.1.1.below hb158.out).mono hb158.out.size) HI3.out.2.2.2 SQ DQ HOt HR3.out).mono ?_
  rintro e v8 ⟨xa4, xc4, ya4, yc4, rfl, hX4, hY4, hB⟩
  have z159 : wo147.heap.size ≤ v8.heap.size := hB.size
  have B160 : Hid (Abx v8 (w.heap.size) (.bool false) (.slice sa1 sz1.length sc1) (.slice da1 dz1.length dc1)) := B149.out.go hB
  have B161 : Hid (Abx v8 (w.heap.size + 1) (.bool c2) (.slice sa2 sz2.length sc2) (.slice da2 dz2.length dc2)) := B150.out.go hB
  have B162 : Hid (Abx v8 (w.heap.size + 1 + 1) (.bool false) (.slice sa3 sz3.length sc3) (.slice da3 dz3.length dc3)) := B151.out.go hB
  have B163 : Hid (Abx v8 (v6.heap.size) (.bool false) (.slice xa2 SY.length xc2) (.slice ya2 DY.length yc2)) := B152.out.go hB
  have B164 : Hid (Abx v8 (v7.heap.size) (.bool false) (.slice xa3 SP.length xc3) (.slice ya3 DP.length yc3)) := B153.out.go hB
  have L165 : Hid (MidC (wo95.heap.size) (v6.heap.size) v8 (xa2) (SY) (xc2)) := L154.out.go (by omega) hB
  have L166 : Hid (MidC (wo95.heap.size) (v6.heap.size) v8 (ya2) (DY) (yc2)) := L155.out.go (by omega) hB
  have L167 : Hid (MidC (wo121.heap.size) (v7.heap.size) v8 (xa3) (SP) (xc3)) := L156.out.go (by omega) hB
  have L168 : Hid (MidC (wo121.heap.size) (v7.heap.size) v8 (ya3) (DP) (yc3)) := L157.out.go (by omega) hB
  have hb169 : Hid (Below w.heap.size w v8) := hb158.out.trans (hB.mono hb158.out.size)
  have L170 : Hid (MidC (wo147.heap.size) (v8.heap.size) v8 (xa4) (SQ) (xc4)) := hX4.midc
  have L171 : Hid (MidC (wo147.heap.size) (v8.heap.size) v8 (ya4) (DQ) (yc4)) := hY4.midc
  clear hB hb158 B149 B150 B151 B152 B153 L154 L155 L156 L157 hX4 hY4
  have n172 := Abx.new v8 (.bool false) (.slice xa4 SQ.length xc4) (.slice ya4 DQ.length yc4)
  have l173 := ((B164.out.al (.cells #[.bool false, .slice xa4 SQ.length xc4, .slice ya4 DQ.length yc4] 24))).c0
  have l174 := ((B164.out.al (.cells #[.bool false, .slice xa4 SQ.length xc4, .slice ya4 DQ.length yc4] 24))).c1
  have l175 := ((B164.out.al (.cells #[.bool false, .slice xa4 SQ.length xc4, .slice ya4 DQ.length yc4] 24))).c2
  have l176 := (n172).c0
  have l177 := (n172).c1
  have l178 := (n172).c2
  go_wp2_with fail
  obtain ⟨wo179, hwo179⟩ : ∃ wo179, wo179 = (v8.alloc (.cells #[.bool false, .slice xa4 SQ.length xc4, .slice ya4 DQ.length yc4] 24)) := ⟨_, rfl⟩
  rw [← hwo179]
  have z180 : v8.heap.size + 1 ≤ wo179.heap.size := by rw [hwo179]; simp only [World.size_alloc]; omega
  have B181 : Hid (Abx wo179 (w.heap.size) (.bool false) (.slice sa1 sz1.length sc1) (.slice da1 dz1.length dc1)) := by rw [hwo179]; exact (B160.out.al (.cells #[.bool false, .slice xa4 SQ.length xc4, .slice ya4 DQ.length yc4] 24))
  have B182 : Hid (Abx wo179 (w.heap.size + 1) (.bool c2) (.slice sa2 sz2.length sc2) (.slice da2 dz2.length dc2)) := by rw [hwo179]; exact (B161.out.al (.cells #[.bool false, .slice xa4 SQ.length xc4, .slice ya4 DQ.length yc4] 24))
  have B183 : Hid (Abx wo179 (w.heap.size + 1 + 1) (.bool false) (.slice sa3 sz3.length sc3) (.slice da3 dz3.length dc3)) := by rw [hwo179]; exact (B162.out.al (.cells #[.bool false, .slice xa4 SQ.length xc4, .slice ya4 DQ.length yc4] 24))
  have B184 : Hid (Abx wo179 (v6.heap.size) (.bool false) (.slice xa2 SY.length xc2) (.slice ya2 DY.length yc2)) := by rw [hwo179]; exact (B163.out.al (.cells #[.bool false, .slice xa4 SQ.length xc4, .slice ya4 DQ.length yc4] 24))
  have B185 : Hid (Abx wo179 (v7.heap.size) (.bool false) (.slice xa3 SP.length xc3) (.slice ya3 DP.length yc3)) := by rw [hwo179]; exact (B164.out.al (.cells #[.bool false, .slice xa4 SQ.length xc4, .slice ya4 DQ.length yc4] 24))
  have B186 : Hid (Abx wo179 (v8.heap.size) (.bool false) (.slice xa4 SQ.length xc4) (.slice ya4 DQ.length yc4)) := by rw [hwo179]; exact n172
  have L187 : Hid (MidC (wo95.heap.size) (v6.heap.size) wo179 (xa2) (SY) (xc2)) := by rw [hwo179]; exact (L165.out.al (by omega) (.cells #[.bool false, .slice xa4 SQ.length xc4, .slice ya4 DQ.length yc4] 24))
  have L188 : Hid (MidC (wo95.heap.size) (v6.heap.size) wo179 (ya2) (DY) (yc2)) := by rw [hwo179]; exact (L166.out.al (by omega) (.cells #[.bool false, .slice xa4 SQ.length xc4, .slice ya4 DQ.length yc4] 24))
  have L189 : Hid (MidC (wo121.heap.size) (v7.heap.size) wo179 (xa3) (SP) (xc3)) := by rw [hwo179]; exact (L167.out.al (by omega) (.cells #[.bool false, .slice xa4 SQ.length xc4, .slice ya4 DQ.length yc4] 24))
  have L190 : Hid (MidC (wo121.heap.size) (v7.heap.size) wo179 (ya3) (DP) (yc3)) := by rw [hwo179]; exact (L168.out.al (by omega) (.cells #[.bool false, .slice xa4 SQ.length xc4, .slice ya4 DQ.length yc4] 24))
  have L191 : Hid (MidC (wo147.heap.size) (v8.heap.size) wo179 (xa4) (SQ) (xc4)) := by rw [hwo179]; exact (L170.out.al (by omega) (.cells #[.bool false, .slice xa4 SQ.length xc4, .slice ya4 DQ.length yc4] 24))
  have L192 : Hid (MidC (wo147.heap.size) (v8.heap.size) wo179 (ya4) (DQ) (yc4)) := by rw [hwo179]; exact (L171.out.al (by omega) (.cells #[.bool false, .slice xa4 SQ.length xc4, .slice ya4 DQ.length yc4] 24))
  have hb193 : Hid (Below w.heap.size w wo179) := by rw [hwo179]; exact (hb169.out.alloc (by omega) (.cells #[.bool false, .slice xa4 SQ.length xc4, .slice ya4 DQ.length yc4] 24))
  have zwo179 : w.heap.size ≤ wo179.heap.size := hb193.out.size
  clear hwo179 n172 l173 l174 l175 l176 l177 l178 hb169 B160 B161 B162 B163 B164 L165 L166 L167 L168 L170 L171
  refine (jn_ok 0 (by unfold In64; decide) false xa3 xc3 SP ya3 yc3 DP false xa4 xc4 SQ ya4 yc4 DQ _ (by omega) (by omega) (L189.out.is (by omega)) (L190.out.is (by omega)) HTT.out.1 (by omega) (by omega) (L191.out.is (by omega)) (L192.out.is (by omega)) HTT.out.2 SY DY HJn HR4.out).mono ?_
  rintro e v9 ⟨xa5, xc5, ya5, yc5, rfl, hX5, hY5, hB⟩
  have z194 : wo179.heap.size ≤ v9.heap.size := hB.size
  have B195 : Hid (Abx v9 (w.heap.size) (.bool false) (.slice sa1 sz1.length sc1) (.slice da1 dz1.length dc1)) := B181.out.go hB
  have B196 : Hid (Abx v9 (w.heap.size + 1) (.bool c2) (.slice sa2 sz2.length sc2) (.slice da2 dz2.length dc2)) := B182.out.go hB
  have B197 : Hid (Abx v9 (w.heap.size + 1 + 1) (.bool false) (.slice sa3 sz3.length sc3) (.slice da3 dz3.length dc3)) := B183.out.go hB
  have B198 : Hid (Abx v9 (v6.heap.size) (.bool false) (.slice xa2 SY.length xc2) (.slice ya2 DY.length yc2)) := B184.out.go hB
  have B199 : Hid (Abx v9 (v7.heap.size) (.bool false) (.slice xa3 SP.length xc3) (.slice ya3 DP.length yc3)) := B185.out.go hB
  have B200 : Hid (Abx v9 (v8.heap.size) (.bool false) (.slice xa4 SQ.length xc4) (.slice ya4 DQ.length yc4)) := B186.out.go hB
  have L201 : Hid (MidC (wo95.heap.size) (v6.heap.size) v9 (xa2) (SY) (xc2)) := L187.out.go (by omega) hB
  have L202 : Hid (MidC (wo95.heap.size) (v6.heap.size) v9 (ya2) (DY) (yc2)) := L188.out.go (by omega) hB
  have L203 : Hid (MidC (wo121.heap.size) (v7.heap.size) v9 (xa3) (SP) (xc3)) := L189.out.go (by omega) hB
  have L204 : Hid (MidC (wo121.heap.size) (v7.heap.size) v9 (ya3) (DP) (yc3)) := L190.out.go (by omega) hB
  have L205 : Hid (MidC (wo147.heap.size) (v8.heap.size) v9 (xa4) (SQ) (xc4)) := L191.out.go (by omega) hB
  have L206 : Hid (MidC (wo147.heap.size) (v8.heap.size) v9 (ya4) (DQ) (yc4)) := L192.out.go (by omega) hB
  have hb207 : Hid (Below w.heap.size w v9) := hb193.out.trans (hB.mono hb193.out.size)
  have L208 : Hid (MidC (wo179.heap.size) (v9.heap.size) v9 (xa5) (SY) (xc5)) := hX5.midc
  have L209 : Hid (MidC (wo179.heap.size) (v9.heap.size) v9 (ya5) (DY) (yc5)) := hY5.midc
  clear hB hb193 B181 B182 B183 B184 B185 B186 L187 L188 L189 L190 L191 L192 hX5 hY5
  clear L203 L204 L205 L206 B199 B200
  have n210 := Abx.new v9 (.bool false) (.slice xa5 SY.length xc5) (.slice ya5 DY.length yc5)
  have l211 := ((B198.out.al (.cells #[.bool false, .slice xa5 SY.length xc5, .slice ya5 DY.length yc5] 24))).c0
  have l212 := ((B198.out.al (.cells #[.bool false, .slice xa5 SY.length xc5, .slice ya5 DY.length yc5] 24))).c1
  have l213 := ((B198.out.al (.cells #[.bool false, .slice xa5 SY.length xc5, .slice ya5 DY.length yc5] 24))).c2
  have l214 := (n210).c0
  have l215 := (n210).c1
  have l216 := (n210).c2
  go_wp2_with fail
  obtain ⟨wo217, hwo217⟩ : ∃ wo217, wo217 = (v9.alloc (.cells #[.bool false, .slice xa5 SY.length xc5, .slice ya5 DY.length yc5] 24)) := ⟨_, rfl⟩
  rw [← hwo217]
  have z218 : v9.heap.size + 1 ≤ wo217.heap.size := by rw [hwo217]; simp only [World.size_alloc]; omega
  have B219 : Hid (Abx wo217 (w.heap.size) (.bool false) (.slice sa1 sz1.length sc1) (.slice da1 dz1.length dc1)) := by rw [hwo217]; exact (B195.out.al (.cells #[.bool false, .slice xa5 SY.length xc5, .slice ya5 DY.length yc5] 24))
  have B220 : Hid (Abx wo217 (w.heap.size + 1) (.bool c2) (.slice sa2 sz2.length sc2) (.slice da2 dz2.length dc2)) := by rw [hwo217]; exact (B196.out.al (.cells #[.bool false, .slice xa5 SY.length xc5, .slice ya5 DY.length yc5] 24))
  have B221 : Hid (Abx wo217 (w.heap.size + 1 + 1) (.bool false) (.slice sa3 sz3.length sc3) (.slice da3 dz3.length dc3)) := by rw [hwo217]; exact (B197.out.al (.cells #[.bool false, .slice xa5 SY.length xc5, .slice ya5 DY.length yc5] 24))
  have B222 : Hid (Abx wo217 (v6.heap.size) (.bool false) (.slice xa2 SY.length xc2) (.slice ya2 DY.length yc2)) := by rw [hwo217]; exact (B198.out.al (.cells #[.bool false, .slice xa5 SY.length xc5, .slice ya5 DY.length yc5] 24))
  have B223 : Hid (Abx wo217 (v9.heap.size) (.bool false) (.slice xa5 SY.length xc5) (.slice ya5 DY.length yc5)) := by rw [hwo217]; exact n210
  have L224 : Hid (MidC (wo95.heap.size) (v6.heap.size) wo217 (xa2) (SY) (xc2)) := by rw [hwo217]; exact (L201.out.al (by omega) (.cells #[.bool false, .slice xa5 SY.length xc5, .slice ya5 DY.length yc5] 24))
  have L225 : Hid (MidC (wo95.heap.size) (v6.heap.size) wo217 (ya2) (DY) (yc2)) := by rw [hwo217]; exact (L202.out.al (by omega) (.cells #[.bool false, .slice xa5 SY.length xc5, .slice ya5 DY.length yc5] 24))
  have L226 : Hid (MidC (wo179.heap.size) (v9.heap.size) wo217 (xa5) (SY) (xc5)) := by rw [hwo217]; exact (L208.out.al (by omega) (.cells #[.bool false, .slice xa5 SY.length xc5, .slice ya5 DY.length yc5] 24))
  have L227 : Hid (MidC (wo179.heap.size) (v9.heap.size) wo217 (ya5) (DY) (yc5)) := by rw [hwo217]; exact (L209.out.al (by omega) (.cells #[.bool false, .slice xa5 SY.length xc5, .slice ya5 DY.length yc5] 24))
  have hb228 : Hid (Below w.heap.size w wo217) := by rw [hwo217]; exact (hb207.out.alloc (by omega) (.cells #[.bool false, .slice xa5 SY.length xc5, .slice ya5 DY.length yc5] 24))
  have zwo217 : w.heap.size ≤ wo217.heap.size := hb228.out.size
  clear hwo217 n210 l211 l212 l213 l214 l215 l216 hb207 B195 B196 B197 B198 L201 L202 L208 L209
  refine (alike_eq false xa2 xc2 SY ya2 yc2 DY xa5 xc5 SY ya5 yc5 DY rfl rfl (by omega) (by omega) _ (L224.out.is (by omega)) (L225.out.is (by omega)).1 (L226.out.is (by omega)) (L227.out.is (by omega)).1).mono ?_
  rintro e v10 ⟨rfl, hB⟩
  have z229 : wo217.heap.size ≤ v10.heap.size := hB.size
  have B230 : Hid (Abx v10 (w.heap.size) (.bool false) (.slice sa1 sz1.length sc1) (.slice da1 dz1.length dc1)) := B219.out.go hB
  have B231 : Hid (Abx v10 (w.heap.size + 1) (.bool c2) (.slice sa2 sz2.length sc2) (.slice da2 dz2.length dc2)) := B220.out.go hB
  have B232 : Hid (Abx v10 (w.heap.size + 1 + 1) (.bool false) (.slice sa3 sz3.length sc3) (.slice da3 dz3.length dc3)) := B221.out.go hB
  have B233 : Hid (Abx v10 (v6.heap.size) (.bool false) (.slice xa2 SY.length xc2) (.slice ya2 DY.length yc2)) := B222.out.go hB
  have B234 : Hid (Abx v10 (v9.heap.size) (.bool false) (.slice xa5 SY.length xc5) (.slice ya5 DY.length yc5)) := B223.out.go hB
  have L235 : Hid (MidC (wo95.heap.size) (v6.heap.size) v10 (xa2) (SY) (xc2)) := L224.out.go (by omega) hB
  have L236 : Hid (MidC (wo95.heap.size) (v6.heap.size) v10 (ya2) (DY) (yc2)) := L225.out.go (by omega) hB
  have L237 : Hid (MidC (wo179.heap.size) (v9.heap.size) v10 (xa5) (SY) (xc5)) := L226.out.go (by omega) hB
  have L238 : Hid (MidC (wo179.heap.size) (v9.heap.size) v10 (ya5) (DY) (yc5)) := L227.out.go (by omega) hB
  have hb239 : Hid (Below w.heap.size w v10) := hb228.out.trans (hB.mono hb228.out.size)
  clear hB hb228 B219 B220 B221 B222 B223 L224 L225 L226 L227
  clear L235 L236 L237 L238 B233 B234
  have l0 := B232.out.c0
  have l1 := B230.out.c0
  have l2 := B230.out.c1
  have l3 := B232.out.c1
  go_wp2_with fail
  go_ret
  exact ⟨rfl, hb239.out⟩
set_option maxRecDepth 100000 in
set_option maxHeartbeats 8000000 in
theorem parts_ok (HOt : COt) (HJn : CJn) (HRd : CRd) (H2 : C2d) (f : Int) (hf : In64 f) (c1 : Bool) (sa1 : Option Addr) (sc1 : Nat) (sz1 : List Int) (da1 : Option Addr) (dc1 : Nat) (dz1 : List Int) (c2 : Bool) (sa2 : Option Addr) (sc2 : Nat) (sz2 : List Int) (da2 : Option Addr) (dc2 : Nat) (dz2 : List Int) (c3 : Bool) (sa3 : Option Addr) (sc3 : Nat) (sz3 : List Int) (da3 : Option Addr) (dc3 : Nat) (dz3 : List Int) (w : World) (w8 : IsArrD w sa1 sz1 sc1 da1 dz1 dc1) (w9 : IsArrD w sa2 sz2 sc2 da2 dz2 dc2) (w10 : IsArrD w sa3 sz3 sc3 da3 dz3 dc3) (J : Hid (jnE 0 c1 sz1 dz1 c2 sz2 dz2 = 0)) (O : ∀ S0 D0, jnS (0 : Int).toNat sz1 sz2 = S0 → jnD (0 : Int).toNat sz1 dz1 sz2 dz2 = D0 → otE f c1 S0 D0 c3 sz3 dz3 = 0) (hc3 : c3 = false) (hc1 : c1 = false) (F1 : Hid (sz1.length = 1)) (F3 : Hid (sz3.length = 1)) :
    Calls Try.prog 4 #[.int .i64 f, .agg #[.bool c1, .slice sa1 sz1.length sc1, .slice da1 dz1.length dc1], .agg #[.bool c2, .slice sa2 sz2.length sc2, .slice da2 dz2.length dc2], .agg #[.bool c3, .slice sa3 sz3.length sc3, .slice da3 dz3.length dc3]] w fun e w' => e = .returned (.bool true) ∧ Below w.heap.size w w' := by
  subst hc3
  subst hc1
  have t1 : ((sz1.length : Int) != 1) = false := by rw [F1.out]; rfl
  have t3 : ((sz3.length : Int) != 1) = false := by rw [F3.out]; rfl
  obtain ⟨S0, hS0⟩ : ∃ S0, jnS (0 : Int).toNat sz1 sz2 = S0 := ⟨_, rfl⟩
  obtain ⟨D0, hD0⟩ : ∃ D0, jnD (0 : Int).toNat sz1 dz1 sz2 dz2 = D0 := ⟨_, rfl⟩
  have HJ : Hid (jnE 0 false sz1 dz1 c2 sz2 dz2 = 0 ∧ jnS (0 : Int).toNat sz1 sz2 = S0 ∧ jnD (0 : Int).toNat sz1 dz1 sz2 dz2 = D0) := ⟨J.out, hS0, hD0⟩
  have HJT : Hid (∀ j, In64 (nth D0 j)) := by rw [← hD0]; exact jn_64 J.out w8.2.2.2.2.2 w9.2.2.2.2.2
  have LJ : S0.length ≤ 4096 ∧ D0.length ≤ 4096 := by rw [← hS0, ← hD0]; exact jn_short13 J.out
  obtain ⟨SY, DY, SP, DP, SQ, DQ, R1, R2, R3, R4, TT, L1, L2, L3⟩ := parts13 J.out hS0 hD0 (O _ _ hS0 hD0) w8.2.2.2.2.2 w9.2.2.2.2.2 w10.2.2.2.2.2
  have HR1 : Hid (_) := R1
  have HR2 : Hid (_) := R2
  have HR3 : Hid (_) := R3
  have HR4 : Hid (_) := R4
  have HTT : Hid (_) := TT
  obtain ⟨SU, DU, DW, V, U1, U2, U3, U4, UT, M1, M2, M3⟩ := rows13 R2.1 F1.out F3.out w8.2.2.2.2.2 w10.2.2.2.2.2
  have HU1 : Hid (_) := U1
  have HU2 : Hid (_) := U2
  have HU3 : Hid (_) := U3
  have HU4 : Hid (_) := U4
  have HUT : Hid (_) := UT
  clear U1 U2 U3 U4 UT
  clear R1 R2 R3 R4 TT O hS0 hD0
  obtain ⟨x11, x12, x3, x4, s64, T⟩ := w8
  have HI1 : Hid (IsC w.heap.size w sa1 sz1 sc1 ∧ IsC w.heap.size w da1 dz1 dc1 ∧ (∀ j, In64 (nth sz1 j)) ∧ ∀ j, In64 (nth dz1 j)) := ⟨x3, x4, s64, T⟩
  clear x3 x4 T s64
  obtain ⟨x21, x22, x3, x4, s64, T⟩ := w9
  have HI2 : Hid (IsC w.heap.size w sa2 sz2 sc2 ∧ IsC w.heap.size w da2 dz2 dc2 ∧ (∀ j, In64 (nth sz2 j)) ∧ ∀ j, In64 (nth dz2 j)) := ⟨x3, x4, s64, T⟩
  clear x3 x4 T s64
  obtain ⟨x31, x32, x3, x4, s64, T⟩ := w10
  have HI3 : Hid (IsC w.heap.size w sa3 sz3 sc3 ∧ IsC w.heap.size w da3 dz3 dc3 ∧ (∀ j, In64 (nth sz3 j)) ∧ ∀ j, In64 (nth dz3 j)) := ⟨x3, x4, s64, T⟩
  clear x3 x4 T s64
  have n1 := Abx.new w (.bool false) (.slice sa1 sz1.length sc1) (.slice da1 dz1.length dc1)
  have n2 := Abx.new (w.alloc (.cells #[.bool false, .slice sa1 sz1.length sc1, .slice da1 dz1.length dc1] 24)) (.bool c2) (.slice sa2 sz2.length sc2) (.slice da2 dz2.length dc2)
  simp only [World.size_alloc] at n2
  have n3 := Abx.new ((w.alloc (.cells #[.bool false, .slice sa1 sz1.length sc1, .slice da1 dz1.length dc1] 24)).alloc (.cells #[.bool c2, .slice sa2 sz2.length sc2, .slice da2 dz2.length dc2] 24)) (.bool false) (.slice sa3 sz3.length sc3) (.slice da3 dz3.length dc3)
  simp only [World.size_alloc] at n3
  have n4 := lit_mid (((w.alloc (.cells #[.bool false, .slice sa1 sz1.length sc1, .slice da1 dz1.length dc1] 24)).alloc (.cells #[.bool c2, .slice sa2 sz2.length sc2, .slice da2 dz2.length dc2] 24)).alloc (.cells #[.bool false, .slice sa3 sz3.length sc3, .slice da3 dz3.length dc3] 24)) 3 [5, 7] 2 rfl
  simp only [World.size_alloc, List.map_cons, List.map_nil] at n4
  go_enter Try.func4, Try.ntmps4
  go_wp2_with fail
  obtain ⟨wo5, hwo5⟩ : ∃ wo5, wo5 = ((((w.alloc (.cells #[.bool false, .slice sa1 sz1.length sc1, .slice da1 dz1.length dc1] 24)).alloc (.cells #[.bool c2, .slice sa2 sz2.length sc2, .slice da2 dz2.length dc2] 24)).alloc (.cells #[.bool false, .slice sa3 sz3.length sc3, .slice da3 dz3.length dc3] 24)).alloc (.cells #[.int .i64 5, .int .i64 7] 3)) := ⟨_, rfl⟩
  rw [← hwo5]
  have z6 : w.heap.size + 1 + 1 + 1 + 1 ≤ wo5.heap.size := by rw [hwo5]; simp only [World.size_alloc]; omega
  have B7 : Hid (Abx wo5 (w.heap.size) (.bool false) (.slice sa1 sz1.length sc1) (.slice da1 dz1.length dc1)) := by rw [hwo5]; exact (((n1.al (.cells #[.bool c2, .slice sa2 sz2.length sc2, .slice da2 dz2.length dc2] 24)).al (.cells #[.bool false, .slice sa3 sz3.length sc3, .slice da3 dz3.length dc3] 24)).al (.cells #[.int .i64 5, .int .i64 7] 3))
  have B8 : Hid (Abx wo5 (w.heap.size + 1) (.bool c2) (.slice sa2 sz2.length sc2) (.slice da2 dz2.length dc2)) := by rw [hwo5]; exact ((n2.al (.cells #[.bool false, .slice sa3 sz3.length sc3, .slice da3 dz3.length dc3] 24)).al (.cells #[.int .i64 5, .int .i64 7] 3))
  have B9 : Hid (Abx wo5 (w.heap.size + 1 + 1) (.bool false) (.slice sa3 sz3.length sc3) (.slice da3 dz3.length dc3)) := by rw [hwo5]; exact (n3.al (.cells #[.int .i64 5, .int .i64 7] 3))
  have L10 : Hid (MidC (w.heap.size + 1 + 1 + 1) (w.heap.size + 1 + 1 + 1 + 1) wo5 (some ⟨w.heap.size + 1 + 1 + 1, 0, none⟩) ([5, 7]) (2)) := by rw [hwo5]; exact n4
  have hb11 : Hid (Below w.heap.size w wo5) := by rw [hwo5]; exact (((((Below.refl w.heap.size w).alloc (by omega) (.cells #[.bool false, .slice sa1 sz1.length sc1, .slice da1 dz1.length dc1] 24)).alloc (by simp only [World.size_alloc]; omega) (.cells #[.bool c2, .slice sa2 sz2.length sc2, .slice da2 dz2.length dc2] 24)).alloc (by simp only [World.size_alloc]; omega) (.cells #[.bool false, .slice sa3 sz3.length sc3, .slice da3 dz3.length dc3] 24)).alloc (by simp only [World.size_alloc]; omega) (.cells #[.int .i64 5, .int .i64 7] 3))
  have zwo5 : w.heap.size ≤ wo5.heap.size := hb11.out.size
  clear hwo5 n1 n2 n3 n4
  refine (vec_c (some ⟨w.heap.size + 1 + 1 + 1, 0, none⟩) 2 [5, 7] (by simp) _ (L10.out.is (by omega)).1).mono ?_
  rintro e v1 ⟨vap, vcp, gap, gcp, rfl, hVp, hGp, hB⟩
  have z12 : wo5.heap.size ≤ v1.heap.size := hB.size
  have B13 : Hid (Abx v1 (w.heap.size) (.bool false) (.slice sa1 sz1.length sc1) (.slice da1 dz1.length dc1)) := B7.out.go hB
  have B14 : Hid (Abx v1 (w.heap.size + 1) (.bool c2) (.slice sa2 sz2.length sc2) (.slice da2 dz2.length dc2)) := B8.out.go hB
  have B15 : Hid (Abx v1 (w.heap.size + 1 + 1) (.bool false) (.slice sa3 sz3.length sc3) (.slice da3 dz3.length dc3)) := B9.out.go hB
  have L16 : Hid (MidC (w.heap.size + 1 + 1 + 1) (w.heap.size + 1 + 1 + 1 + 1) v1 (some ⟨w.heap.size + 1 + 1 + 1, 0, none⟩) ([5, 7]) (2)) := L10.out.go (by omega) hB
  have hb17 : Hid (Below w.heap.size w v1) := hb11.out.trans (hB.mono hb11.out.size)
  have L18 : Hid (MidC (wo5.heap.size) (v1.heap.size) v1 (vap) ([(2 : Int)]) (vcp)) := hVp.midc
  have L19 : Hid (MidC (wo5.heap.size) (v1.heap.size) v1 (gap) ([5, 7]) (gcp)) := hGp.midc
  clear hB hb11 B7 B8 B9 L10 hVp hGp
  clear L16
  have n20 := lit_mid v1 3 [1, 2] 2 rfl
  simp only [List.map_cons, List.map_nil] at n20
  go_wp2_with fail
  obtain ⟨wo21, hwo21⟩ : ∃ wo21, wo21 = (v1.alloc (.cells #[.int .i64 1, .int .i64 2] 3)) := ⟨_, rfl⟩
  rw [← hwo21]
  have z22 : v1.heap.size + 1 ≤ wo21.heap.size := by rw [hwo21]; simp only [World.size_alloc]; omega
  have B23 : Hid (Abx wo21 (w.heap.size) (.bool false) (.slice sa1 sz1.length sc1) (.slice da1 dz1.length dc1)) := by rw [hwo21]; exact (B13.out.al (.cells #[.int .i64 1, .int .i64 2] 3))
  have B24 : Hid (Abx wo21 (w.heap.size + 1) (.bool c2) (.slice sa2 sz2.length sc2) (.slice da2 dz2.length dc2)) := by rw [hwo21]; exact (B14.out.al (.cells #[.int .i64 1, .int .i64 2] 3))
  have B25 : Hid (Abx wo21 (w.heap.size + 1 + 1) (.bool false) (.slice sa3 sz3.length sc3) (.slice da3 dz3.length dc3)) := by rw [hwo21]; exact (B15.out.al (.cells #[.int .i64 1, .int .i64 2] 3))
  have L26 : Hid (MidC (wo5.heap.size) (v1.heap.size) wo21 (vap) ([(2 : Int)]) (vcp)) := by rw [hwo21]; exact (L18.out.al (by omega) (.cells #[.int .i64 1, .int .i64 2] 3))
  have L27 : Hid (MidC (wo5.heap.size) (v1.heap.size) wo21 (gap) ([5, 7]) (gcp)) := by rw [hwo21]; exact (L19.out.al (by omega) (.cells #[.int .i64 1, .int .i64 2] 3))
  have L28 : Hid (MidC (v1.heap.size) (v1.heap.size + 1) wo21 (some ⟨v1.heap.size, 0, none⟩) ([1, 2]) (2)) := by rw [hwo21]; exact n20
  have hb29 : Hid (Below w.heap.size w wo21) := by rw [hwo21]; exact (hb17.out.alloc (by omega) (.cells #[.int .i64 1, .int .i64 2] 3))
  have zwo21 : w.heap.size ≤ wo21.heap.size := hb29.out.size
  clear hwo21 n20 hb17 B13 B14 B15 L18 L19
  refine (vec_c (some ⟨v1.heap.size, 0, none⟩) 2 [1, 2] (by simp) _ (L28.out.is (by omega)).1).mono ?_
  rintro e v2 ⟨vaq, vcq, gaq, gcq, rfl, hVq, hGq, hB⟩
  have z30 : wo21.heap.size ≤ v2.heap.size := hB.size
  have B31 : Hid (Abx v2 (w.heap.size) (.bool false) (.slice sa1 sz1.length sc1) (.slice da1 dz1.length dc1)) := B23.out.go hB
  have B32 : Hid (Abx v2 (w.heap.size + 1) (.bool c2) (.slice sa2 sz2.length sc2) (.slice da2 dz2.length dc2)) := B24.out.go hB
  have B33 : Hid (Abx v2 (w.heap.size + 1 + 1) (.bool false) (.slice sa3 sz3.length sc3) (.slice da3 dz3.length dc3)) := B25.out.go hB
  have L34 : Hid (MidC (wo5.heap.size) (v1.heap.size) v2 (vap) ([(2 : Int)]) (vcp)) := L26.out.go (by omega) hB
  have L35 : Hid (MidC (wo5.heap.size) (v1.heap.size) v2 (gap) ([5, 7]) (gcp)) := L27.out.go (by omega) hB
  have L36 : Hid (MidC (v1.heap.size) (v1.heap.size + 1) v2 (some ⟨v1.heap.size, 0, none⟩) ([1, 2]) (2)) := L28.out.go (by omega) hB
  have hb37 : Hid (Below w.heap.size w v2) := hb29.out.trans (hB.mono hb29.out.size)
  have L38 : Hid (MidC (wo21.heap.size) (v2.heap.size) v2 (vaq) ([(2 : Int)]) (vcq)) := hVq.midc
  have L39 : Hid (MidC (wo21.heap.size) (v2.heap.size) v2 (gaq) ([1, 2]) (gcq)) := hGq.midc
  clear hB hb29 B23 B24 B25 L26 L27 L28 hVq hGq
  clear L36
  go_wp2_with fail
  refine (otw_ok 2 false vap vcp [(2 : Int)] 1 rfl gap gcp [5, 7] 2 rfl false vaq vcq [(2 : Int)] 1 rfl gaq gcq [1, 2] 2 rfl _ (by unfold In64; decide) (by decide) (by decide) (L34.out.is (by omega)).1 (L35.out.is (by omega)).1 (lit12 (by decide)) (by decide) (by decide) (L38.out.is (by omega)).1 (L39.out.is (by omega)).1 (lit12 (by decide)) [2, 2] [4, 3, 6, 5] HOt (by show otE 2 false [2] [5, 7] false [2] [1, 2] = 0 ∧ [(2 : Int)] ++ [2] = [2, 2] ∧ otD 2 false [2] [5, 7] false [2] [1, 2] = [4, 3, 6, 5]; decide +kernel)).mono ?_
  rintro e v3 ⟨f1, g1, f2, g2, rfl, hX0, hY0, hB⟩
  have z40 : v2.heap.size ≤ v3.heap.size := hB.size
  have B41 : Hid (Abx v3 (w.heap.size) (.bool false) (.slice sa1 sz1.length sc1) (.slice da1 dz1.length dc1)) := B31.out.go hB
  have B42 : Hid (Abx v3 (w.heap.size + 1) (.bool c2) (.slice sa2 sz2.length sc2) (.slice da2 dz2.length dc2)) := B32.out.go hB
  have B43 : Hid (Abx v3 (w.heap.size + 1 + 1) (.bool false) (.slice sa3 sz3.length sc3) (.slice da3 dz3.length dc3)) := B33.out.go hB
  have L44 : Hid (MidC (wo5.heap.size) (v1.heap.size) v3 (vap) ([(2 : Int)]) (vcp)) := L34.out.go (by omega) hB
  have L45 : Hid (MidC (wo5.heap.size) (v1.heap.size) v3 (gap) ([5, 7]) (gcp)) := L35.out.go (by omega) hB
  have L46 : Hid (MidC (wo21.heap.size) (v2.heap.size) v3 (vaq) ([(2 : Int)]) (vcq)) := L38.out.go (by omega) hB
  have L47 : Hid (MidC (wo21.heap.size) (v2.heap.size) v3 (gaq) ([1, 2]) (gcq)) := L39.out.go (by omega) hB
  have hb48 : Hid (Below w.heap.size w v3) := hb37.out.trans (hB.mono hb37.out.size)
  have L49 : Hid (MidC (v2.heap.size) (v3.heap.size) v3 (f1) ([2, 2]) (g1)) := hX0.midc
  have L50 : Hid (MidC (v2.heap.size) (v3.heap.size) v3 (f2) ([4, 3, 6, 5]) (g2)) := hY0.midc
  clear hB hb37 B31 B32 B33 L34 L35 L38 L39 hX0 hY0
  clear L44 L45 L46 L47
  have n51 := Abx.new v3 (.bool false) (.slice f1 2 g1) (.slice f2 4 g2)
  have l52 := (n51).c0
  have l53 := (n51).c1
  have l54 := (n51).c2
  have n55 := lit_mid (v3.alloc (.cells #[.bool false, .slice f1 2 g1, .slice f2 4 g2] 24)) 3 [4, 3, 6, 5] 4 rfl
  simp only [World.size_alloc, List.map_cons, List.map_nil] at n55
  go_wp2_with fail
  obtain ⟨wo56, hwo56⟩ : ∃ wo56, wo56 = ((v3.alloc (.cells #[.bool false, .slice f1 2 g1, .slice f2 4 g2] 24)).alloc (.cells #[.int .i64 4, .int .i64 3, .int .i64 6, .int .i64 5] 3)) := ⟨_, rfl⟩
  rw [← hwo56]
  have z57 : v3.heap.size + 1 + 1 ≤ wo56.heap.size := by rw [hwo56]; simp only [World.size_alloc]; omega
  have B58 : Hid (Abx wo56 (w.heap.size) (.bool false) (.slice sa1 sz1.length sc1) (.slice da1 dz1.length dc1)) := by rw [hwo56]; exact ((B41.out.al (.cells #[.bool false, .slice f1 2 g1, .slice f2 4 g2] 24)).al (.cells #[.int .i64 4, .int .i64 3, .int .i64 6, .int .i64 5] 3))
  have B59 : Hid (Abx wo56 (w.heap.size + 1) (.bool c2) (.slice sa2 sz2.length sc2) (.slice da2 dz2.length dc2)) := by rw [hwo56]; exact ((B42.out.al (.cells #[.bool false, .slice f1 2 g1, .slice f2 4 g2] 24)).al (.cells #[.int .i64 4, .int .i64 3, .int .i64 6, .int .i64 5] 3))
  have B60 : Hid (Abx wo56 (w.heap.size + 1 + 1) (.bool false) (.slice sa3 sz3.length sc3) (.slice da3 dz3.length dc3)) := by rw [hwo56]; exact ((B43.out.al (.cells #[.bool false, .slice f1 2 g1, .slice f2 4 g2] 24)).al (.cells #[.int .i64 4, .int .i64 3, .int .i64 6, .int .i64 5] 3))
  have B61 : Hid (Abx wo56 (v3.heap.size) (.bool false) (.slice f1 2 g1) (.slice f2 4 g2)) := by rw [hwo56]; exact (n51.al (.cells #[.int .i64 4, .int .i64 3, .int .i64 6, .int .i64 5] 3))
  have L62 : Hid (MidC (v2.heap.size) (v3.heap.size) wo56 (f1) ([2, 2]) (g1)) := by rw [hwo56]; exact ((L49.out.al (by omega) (.cells #[.bool false, .slice f1 2 g1, .slice f2 4 g2] 24)).al (by simp only [World.size_alloc]; omega) (.cells #[.int .i64 4, .int .i64 3, .int .i64 6, .int .i64 5] 3))
  have L63 : Hid (MidC (v2.heap.size) (v3.heap.size) wo56 (f2) ([4, 3, 6, 5]) (g2)) := by rw [hwo56]; exact ((L50.out.al (by omega) (.cells #[.bool false, .slice f1 2 g1, .slice f2 4 g2] 24)).al (by simp only [World.size_alloc]; omega) (.cells #[.int .i64 4, .int .i64 3, .int .i64 6, .int .i64 5] 3))
  have L64 : Hid (MidC (v3.heap.size + 1) (v3.heap.size + 1 + 1) wo56 (some ⟨v3.heap.size + 1, 0, none⟩) ([4, 3, 6, 5]) (4)) := by rw [hwo56]; exact n55
  have hb65 : Hid (Below w.heap.size w wo56) := by rw [hwo56]; exact ((hb48.out.alloc (by omega) (.cells #[.bool false, .slice f1 2 g1, .slice f2 4 g2] 24)).alloc (by simp only [World.size_alloc]; omega) (.cells #[.int .i64 4, .int .i64 3, .int .i64 6, .int .i64 5] 3))
  have zwo56 : w.heap.size ≤ wo56.heap.size := hb65.out.size
  clear hwo56 n51 l52 l53 l54 n55 hb48 B41 B42 B43 L49 L50
  refine (ints_any f2 g2 [4, 3, 6, 5] (some ⟨v3.heap.size + 1, 0, none⟩) 4 [4, 3, 6, 5] (by simp) _ _ (L63.out.is (by omega)).1 (L64.out.is (by omega)).1).mono ?_
  rintro e v4 ⟨rfl, hB⟩
  have z66 : wo56.heap.size ≤ v4.heap.size := hB.size
  have B67 : Hid (Abx v4 (w.heap.size) (.bool false) (.slice sa1 sz1.length sc1) (.slice da1 dz1.length dc1)) := B58.out.go hB
  have B68 : Hid (Abx v4 (w.heap.size + 1) (.bool c2) (.slice sa2 sz2.length sc2) (.slice da2 dz2.length dc2)) := B59.out.go hB
  have B69 : Hid (Abx v4 (w.heap.size + 1 + 1) (.bool false) (.slice sa3 sz3.length sc3) (.slice da3 dz3.length dc3)) := B60.out.go hB
  have B70 : Hid (Abx v4 (v3.heap.size) (.bool false) (.slice f1 2 g1) (.slice f2 4 g2)) := B61.out.go hB
  have L71 : Hid (MidC (v2.heap.size) (v3.heap.size) v4 (f1) ([2, 2]) (g1)) := L62.out.go (by omega) hB
  have L72 : Hid (MidC (v2.heap.size) (v3.heap.size) v4 (f2) ([4, 3, 6, 5]) (g2)) := L63.out.go (by omega) hB
  have L73 : Hid (MidC (v3.heap.size + 1) (v3.heap.size + 1 + 1) v4 (some ⟨v3.heap.size + 1, 0, none⟩) ([4, 3, 6, 5]) (4)) := L64.out.go (by omega) hB
  have hb74 : Hid (Below w.heap.size w v4) := hb65.out.trans (hB.mono hb65.out.size)
  clear hB hb65 B58 B59 B60 B61 L62 L63 L64
  rw [eqB_true rfl]
  clear L71 L72 L73 B70
  have l75 := (B67.out).c0
  have l76 := (B67.out).c1
  have l77 := (B67.out).c2
  have l78 := (B68.out).c0
  have l79 := (B68.out).c1
  have l80 := (B68.out).c2
  go_wp2_with fail
  clear l75 l76 l77 l78 l79 l80
  refine (jn_ok 0 (by unfold In64; decide) false sa1 sc1 sz1 da1 dc1 dz1 c2 sa2 sc2 sz2 da2 dc2 dz2 _ x11 x12 ((HI1.out.1.below hb74.out).mono hb74.out.size) ((HI1.out.2.1.below hb74.out).mono hb74.out.size) HI1.out.2.2.2 x21 x22 ((HI2.out.1.below hb74.out).mono hb74.out.size) ((HI2.out.2.1.below hb74.out).mono hb74.out.size) HI2.out.2.2.2 S0 D0 HJn HJ.out).mono ?_
  rintro e v5 ⟨xa1, xc1, ya1, yc1, rfl, hX1, hY1, hB⟩
  have z81 : v4.heap.size ≤ v5.heap.size := hB.size
  have B82 : Hid (Abx v5 (w.heap.size) (.bool false) (.slice sa1 sz1.length sc1) (.slice da1 dz1.length dc1)) := B67.out.go hB
  have B83 : Hid (Abx v5 (w.heap.size + 1) (.bool c2) (.slice sa2 sz2.length sc2) (.slice da2 dz2.length dc2)) := B68.out.go hB
  have B84 : Hid (Abx v5 (w.heap.size + 1 + 1) (.bool false) (.slice sa3 sz3.length sc3) (.slice da3 dz3.length dc3)) := B69.out.go hB
  have hb85 : Hid (Below w.heap.size w v5) := hb74.out.trans (hB.mono hb74.out.size)
  have L86 : Hid (MidC (v4.heap.size) (v5.heap.size) v5 (xa1) (S0) (xc1)) := hX1.midc
  have L87 : Hid (MidC (v4.heap.size) (v5.heap.size) v5 (ya1) (D0) (yc1)) := hY1.midc
  clear hB hb74 B67 B68 B69 hX1 hY1
  have n88 := Abx.new v5 (.bool false) (.slice xa1 S0.length xc1) (.slice ya1 D0.length yc1)
  have l89 := (n88).c0
  have l90 := (n88).c1
  have l91 := (n88).c2
  have l92 := ((B84.out.al (.cells #[.bool false, .slice xa1 S0.length xc1, .slice ya1 D0.length yc1] 24))).c0
  have l93 := ((B84.out.al (.cells #[.bool false, .slice xa1 S0.length xc1, .slice ya1 D0.length yc1] 24))).c1
  have l94 := ((B84.out.al (.cells #[.bool false, .slice xa1 S0.length xc1, .slice ya1 D0.length yc1] 24))).c2
  go_wp2_with fail
  obtain ⟨wo95, hwo95⟩ : ∃ wo95, wo95 = (v5.alloc (.cells #[.bool false, .slice xa1 S0.length xc1, .slice ya1 D0.length yc1] 24)) := ⟨_, rfl⟩
  rw [← hwo95]
  have z96 : v5.heap.size + 1 ≤ wo95.heap.size := by rw [hwo95]; simp only [World.size_alloc]; omega
  have B97 : Hid (Abx wo95 (w.heap.size) (.bool false) (.slice sa1 sz1.length sc1) (.slice da1 dz1.length dc1)) := by rw [hwo95]; exact (B82.out.al (.cells #[.bool false, .slice xa1 S0.length xc1, .slice ya1 D0.length yc1] 24))
  have B98 : Hid (Abx wo95 (w.heap.size + 1) (.bool c2) (.slice sa2 sz2.length sc2) (.slice da2 dz2.length dc2)) := by rw [hwo95]; exact (B83.out.al (.cells #[.bool false, .slice xa1 S0.length xc1, .slice ya1 D0.length yc1] 24))
  have B99 : Hid (Abx wo95 (w.heap.size + 1 + 1) (.bool false) (.slice sa3 sz3.length sc3) (.slice da3 dz3.length dc3)) := by rw [hwo95]; exact (B84.out.al (.cells #[.bool false, .slice xa1 S0.length xc1, .slice ya1 D0.length yc1] 24))
  have B100 : Hid (Abx wo95 (v5.heap.size) (.bool false) (.slice xa1 S0.length xc1) (.slice ya1 D0.length yc1)) := by rw [hwo95]; exact n88
  have L101 : Hid (MidC (v4.heap.size) (v5.heap.size) wo95 (xa1) (S0) (xc1)) := by rw [hwo95]; exact (L86.out.al (by omega) (.cells #[.bool false, .slice xa1 S0.length xc1, .slice ya1 D0.length yc1] 24))
  have L102 : Hid (MidC (v4.heap.size) (v5.heap.size) wo95 (ya1) (D0) (yc1)) := by rw [hwo95]; exact (L87.out.al (by omega) (.cells #[.bool false, .slice xa1 S0.length xc1, .slice ya1 D0.length yc1] 24))
  have hb103 : Hid (Below w.heap.size w wo95) := by rw [hwo95]; exact (hb85.out.alloc (by omega) (.cells #[.bool false, .slice xa1 S0.length xc1, .slice ya1 D0.length yc1] 24))
  have zwo95 : w.heap.size ≤ wo95.heap.size := hb103.out.size
  clear hwo95 n88 l89 l90 l91 l92 l93 l94 hb85 B82 B83 B84 L86 L87
  refine (otw_ok f false xa1 xc1 S0 S0.length rfl ya1 yc1 D0 D0.length rfl false sa3 sc3 sz3 sz3.length rfl da3 dc3 dz3 dz3.length rfl _ hf (by omega) (by omega) (L101.out.is (by omega)).1 (L102.out.is (by omega)).1 HJT.out x31 x32 ((HI3.out.1.1.below hb103.out).mono hb103.out.size) ((HI3.out.2.1.1.below hb103.out).mono hb103.out.size) HI3.out.2.2.2 SY DY HOt HR1.out).mono ?_
  rintro e v6 ⟨xa2, xc2, ya2, yc2, rfl, hX2, hY2, hB⟩
  have z104 : wo95.heap.size ≤ v6.heap.size := hB.size
  have B105 : Hid (Abx v6 (w.heap.size) (.bool false) (.slice sa1 sz1.length sc1) (.slice da1 dz1.length dc1)) := B97.out.go hB
  have B106 : Hid (Abx v6 (w.heap.size + 1) (.bool c2) (.slice sa2 sz2.length sc2) (.slice da2 dz2.length dc2)) := B98.out.go hB
  have B107 : Hid (Abx v6 (w.heap.size + 1 + 1) (.bool false) (.slice sa3 sz3.length sc3) (.slice da3 dz3.length dc3)) := B99.out.go hB
  have B108 : Hid (Abx v6 (v5.heap.size) (.bool false) (.slice xa1 S0.length xc1) (.slice ya1 D0.length yc1)) := B100.out.go hB
  have L109 : Hid (MidC (v4.heap.size) (v5.heap.size) v6 (xa1) (S0) (xc1)) := L101.out.go (by omega) hB
  have L110 : Hid (MidC (v4.heap.size) (v5.heap.size) v6 (ya1) (D0) (yc1)) := L102.out.go (by omega) hB
  have hb111 : Hid (Below w.heap.size w v6) := hb103.out.trans (hB.mono hb103.out.size)
  have L112 : Hid (MidC (wo95.heap.size) (v6.heap.size) v6 (xa2) (SY) (xc2)) := hX2.midc
  have L113 : Hid (MidC (wo95.heap.size) (v6.heap.size) v6 (ya2) (DY) (yc2)) := hY2.midc
  clear hB hb103 B97 B98 B99 B100 L101 L102 hX2 hY2
  clear L109 L110 B108
  have n114 := Abx.new v6 (.bool false) (.slice xa2 SY.length xc2) (.slice ya2 DY.length yc2)
  have l115 := ((B105.out.al (.cells #[.bool false, .slice xa2 SY.length xc2, .slice ya2 DY.length yc2] 24))).c0
  have l116 := ((B105.out.al (.cells #[.bool false, .slice xa2 SY.length xc2, .slice ya2 DY.length yc2] 24))).c1
  have l117 := ((B105.out.al (.cells #[.bool false, .slice xa2 SY.length xc2, .slice ya2 DY.length yc2] 24))).c2
  have l118 := ((B107.out.al (.cells #[.bool false, .slice xa2 SY.length xc2, .slice ya2 DY.length yc2] 24))).c0
  have l119 := ((B107.out.al (.cells #[.bool false, .slice xa2 SY.length xc2, .slice ya2 DY.length yc2] 24))).c1
  have l120 := ((B107.out.al (.cells #[.bool false, .slice xa2 SY.length xc2, .slice ya2 DY.length yc2] 24))).c2
  go_wp2_with fail
  obtain ⟨wo121, hwo121⟩ : ∃ wo121, wo121 = (v6.alloc (.cells #[.bool false, .slice xa2 SY.length xc2, .slice ya2 DY.length yc2] 24)) := ⟨_, rfl⟩
  rw [← hwo121]
  have z122 : v6.heap.size + 1 ≤ wo121.heap.size := by rw [hwo121]; simp only [World.size_alloc]; omega
  have B123 : Hid (Abx wo121 (w.heap.size) (.bool false) (.slice sa1 sz1.length sc1) (.slice da1 dz1.length dc1)) := by rw [hwo121]; exact (B105.out.al (.cells #[.bool false, .slice xa2 SY.length xc2, .slice ya2 DY.length yc2] 24))
  have B124 : Hid (Abx wo121 (w.heap.size + 1) (.bool c2) (.slice sa2 sz2.length sc2) (.slice da2 dz2.length dc2)) := by rw [hwo121]; exact (B106.out.al (.cells #[.bool false, .slice xa2 SY.length xc2, .slice ya2 DY.length yc2] 24))
  have B125 : Hid (Abx wo121 (w.heap.size + 1 + 1) (.bool false) (.slice sa3 sz3.length sc3) (.slice da3 dz3.length dc3)) := by rw [hwo121]; exact (B107.out.al (.cells #[.bool false, .slice xa2 SY.length xc2, .slice ya2 DY.length yc2] 24))
  have B126 : Hid (Abx wo121 (v6.heap.size) (.bool false) (.slice xa2 SY.length xc2) (.slice ya2 DY.length yc2)) := by rw [hwo121]; exact n114
  have L127 : Hid (MidC (wo95.heap.size) (v6.heap.size) wo121 (xa2) (SY) (xc2)) := by rw [hwo121]; exact (L112.out.al (by omega) (.cells #[.bool false, .slice xa2 SY.length xc2, .slice ya2 DY.length yc2] 24))
  have L128 : Hid (MidC (wo95.heap.size) (v6.heap.size) wo121 (ya2) (DY) (yc2)) := by rw [hwo121]; exact (L113.out.al (by omega) (.cells #[.bool false, .slice xa2 SY.length xc2, .slice ya2 DY.length yc2] 24))
  have hb129 : Hid (Below w.heap.size w wo121) := by rw [hwo121]; exact (hb111.out.alloc (by omega) (.cells #[.bool false, .slice xa2 SY.length xc2, .slice ya2 DY.length yc2] 24))
  have zwo121 : w.heap.size ≤ wo121.heap.size := hb129.out.size
  clear hwo121 n114 l115 l116 l117 l118 l119 l120 hb111 B105 B106 B107 L112 L113
  refine (otw_ok f false sa1 sc1 sz1 sz1.length rfl da1 dc1 dz1 dz1.length rfl false sa3 sc3 sz3 sz3.length rfl da3 dc3 dz3 dz3.length rfl _ hf x11 x12 ((HI1.out.1.1.below hb129.out).mono hb129.out.size) ((HI1.out.2.1.1.below hb129.out).mono hb129.out.size) HI1.out.2.2.2 x31 x32 ((HI3.out.1.1.below hb129.out).mono hb129.out.size) ((HI3.out.2.1.1.below hb129.out).mono hb129.out.size) HI3.out.2.2.2 SP DP HOt HR2.out).mono ?_
  rintro e v7 ⟨xa3, xc3, ya3, yc3, rfl, hX3, hY3, hB⟩
  have z130 : wo121.heap.size ≤ v7.heap.size := hB.size
  have B131 : Hid (Abx v7 (w.heap.size) (.bool false) (.slice sa1 sz1.length sc1) (.slice da1 dz1.length dc1)) := B123.out.go hB
  have B132 : Hid (Abx v7 (w.heap.size + 1) (.bool c2) (.slice sa2 sz2.length sc2) (.slice da2 dz2.length dc2)) := B124.out.go hB
  have B133 : Hid (Abx v7 (w.heap.size + 1 + 1) (.bool false) (.slice sa3 sz3.length sc3) (.slice da3 dz3.length dc3)) := B125.out.go hB
  have B134 : Hid (Abx v7 (v6.heap.size) (.bool false) (.slice xa2 SY.length xc2) (.slice ya2 DY.length yc2)) := B126.out.go hB
  have L135 : Hid (MidC (wo95.heap.size) (v6.heap.size) v7 (xa2) (SY) (xc2)) := L127.out.go (by omega) hB
  have L136 : Hid (MidC (wo95.heap.size) (v6.heap.size) v7 (ya2) (DY) (yc2)) := L128.out.go (by omega) hB
  have hb137 : Hid (Below w.heap.size w v7) := hb129.out.trans (hB.mono hb129.out.size)
  have L138 : Hid (MidC (wo121.heap.size) (v7.heap.size) v7 (xa3) (SP) (xc3)) := hX3.midc
  have L139 : Hid (MidC (wo121.heap.size) (v7.heap.size) v7 (ya3) (DP) (yc3)) := hY3.midc
  clear hB hb129 B123 B124 B125 B126 L127 L128 hX3 hY3
  have n140 := Abx.new v7 (.bool false) (.slice xa3 SP.length xc3) (.slice ya3 DP.length yc3)
  have l141 := ((B132.out.al (.cells #[.bool false, .slice xa3 SP.length xc3, .slice ya3 DP.length yc3] 24))).c0
  have l142 := ((B132.out.al (.cells #[.bool false, .slice xa3 SP.length xc3, .slice ya3 DP.length yc3] 24))).c1
  have l143 := ((B132.out.al (.cells #[.bool false, .slice xa3 SP.length xc3, .slice ya3 DP.length yc3] 24))).c2
  have l144 := ((B133.out.al (.cells #[.bool false, .slice xa3 SP.length xc3, .slice ya3 DP.length yc3] 24))).c0
  have l145 := ((B133.out.al (.cells #[.bool false, .slice xa3 SP.length xc3, .slice ya3 DP.length yc3] 24))).c1
  have l146 := ((B133.out.al (.cells #[.bool false, .slice xa3 SP.length xc3, .slice ya3 DP.length yc3] 24))).c2
  go_wp2_with fail
  obtain ⟨wo147, hwo147⟩ : ∃ wo147, wo147 = (v7.alloc (.cells #[.bool false, .slice xa3 SP.length xc3, .slice ya3 DP.length yc3] 24)) := ⟨_, rfl⟩
  rw [← hwo147]
  have z148 : v7.heap.size + 1 ≤ wo147.heap.size := by rw [hwo147]; simp only [World.size_alloc]; omega
  have B149 : Hid (Abx wo147 (w.heap.size) (.bool false) (.slice sa1 sz1.length sc1) (.slice da1 dz1.length dc1)) := by rw [hwo147]; exact (B131.out.al (.cells #[.bool false, .slice xa3 SP.length xc3, .slice ya3 DP.length yc3] 24))
  have B150 : Hid (Abx wo147 (w.heap.size + 1) (.bool c2) (.slice sa2 sz2.length sc2) (.slice da2 dz2.length dc2)) := by rw [hwo147]; exact (B132.out.al (.cells #[.bool false, .slice xa3 SP.length xc3, .slice ya3 DP.length yc3] 24))
  have B151 : Hid (Abx wo147 (w.heap.size + 1 + 1) (.bool false) (.slice sa3 sz3.length sc3) (.slice da3 dz3.length dc3)) := by rw [hwo147]; exact (B133.out.al (.cells #[.bool false, .slice xa3 SP.length xc3, .slice ya3 DP.length yc3] 24))
  have B152 : Hid (Abx wo147 (v6.heap.size) (.bool false) (.slice xa2 SY.length xc2) (.slice ya2 DY.length yc2)) := by rw [hwo147]; exact (B134.out.al (.cells #[.bool false, .slice xa3 SP.length xc3, .slice ya3 DP.length yc3] 24))
  have B153 : Hid (Abx wo147 (v7.heap.size) (.bool false) (.slice xa3 SP.length xc3) (.slice ya3 DP.length yc3)) := by rw [hwo147]; exact n140
  have L154 : Hid (MidC (wo95.heap.size) (v6.heap.size) wo147 (xa2) (SY) (xc2)) := by rw [hwo147]; exact (L135.out.al (by omega) (.cells #[.bool false, .slice xa3 SP.length xc3, .slice ya3 DP.length yc3] 24))
  have L155 : Hid (MidC (wo95.heap.size) (v6.heap.size) wo147 (ya2) (DY) (yc2)) := by rw [hwo147]; exact (L136.out.al (by omega) (.cells #[.bool false, .slice xa3 SP.length xc3, .slice ya3 DP.length yc3] 24))
  have L156 : Hid (MidC (wo121.heap.size) (v7.heap.size) wo147 (xa3) (SP) (xc3)) := by rw [hwo147]; exact (L138.out.al (by omega) (.cells #[.bool false, .slice xa3 SP.length xc3, .slice ya3 DP.length yc3] 24))
  have L157 : Hid (MidC (wo121.heap.size) (v7.heap.size) wo147 (ya3) (DP) (yc3)) := by rw [hwo147]; exact (L139.out.al (by omega) (.cells #[.bool false, .slice xa3 SP.length xc3, .slice ya3 DP.length yc3] 24))
  have hb158 : Hid (Below w.heap.size w wo147) := by rw [hwo147]; exact (hb137.out.alloc (by omega) (.cells #[.bool false, .slice xa3 SP.length xc3, .slice ya3 DP.length yc3] 24))
  have zwo147 : w.heap.size ≤ wo147.heap.size := hb158.out.size
  clear hwo147 n140 l141 l142 l143 l144 l145 l146 hb137 B131 B132 B133 B134 L135 L136 L138 L139
  refine (otw_ok f c2 sa2 sc2 sz2 sz2.length rfl da2 dc2 dz2 dz2.length rfl false sa3 sc3 sz3 sz3.length rfl da3 dc3 dz3 dz3.length rfl _ hf x21 x22 ((HI2.out.1.1.below hb158.out).mono hb158.out.size) ((HI2.out.2.1.1.below hb158.out).mono hb158.out.size) HI2.out.2.2.2 x31 x32 ((HI3.out.1.1.below hb158.out).mono hb158.out.size) ((HI3.out.2.1.1.below hb158.out).mono hb158.out.size) HI3.out.2.2.2 SQ DQ HOt HR3.out).mono ?_
  rintro e v8 ⟨xa4, xc4, ya4, yc4, rfl, hX4, hY4, hB⟩
  have z159 : wo147.heap.size ≤ v8.heap.size := hB.size
  have B160 : Hid (Abx v8 (w.heap.size) (.bool false) (.slice sa1 sz1.length sc1) (.slice da1 dz1.length dc1)) := B149.out.go hB
  have B161 : Hid (Abx v8 (w.heap.size + 1) (.bool c2) (.slice sa2 sz2.length sc2) (.slice da2 dz2.length dc2)) := B150.out.go hB
  have B162 : Hid (Abx v8 (w.heap.size + 1 + 1) (.bool false) (.slice sa3 sz3.length sc3) (.slice da3 dz3.length dc3)) := B151.out.go hB
  have B163 : Hid (Abx v8 (v6.heap.size) (.bool false) (.slice xa2 SY.length xc2) (.slice ya2 DY.length yc2)) := B152.out.go hB
  have B164 : Hid (Abx v8 (v7.heap.size) (.bool false) (.slice xa3 SP.length xc3) (.slice ya3 DP.length yc3)) := B153.out.go hB
  have L165 : Hid (MidC (wo95.heap.size) (v6.heap.size) v8 (xa2) (SY) (xc2)) := L154.out.go (by omega) hB
  have L166 : Hid (MidC (wo95.heap.size) (v6.heap.size) v8 (ya2) (DY) (yc2)) := L155.out.go (by omega) hB
  have L167 : Hid (MidC (wo121.heap.size) (v7.heap.size) v8 (xa3) (SP) (xc3)) := L156.out.go (by omega) hB
  have L168 : Hid (MidC (wo121.heap.size) (v7.heap.size) v8 (ya3) (DP) (yc3)) := L157.out.go (by omega) hB
  have hb169 : Hid (Below w.heap.size w v8) := hb158.out.trans (hB.mono hb158.out.size)
  have L170 : Hid (MidC (wo147.heap.size) (v8.heap.size) v8 (xa4) (SQ) (xc4)) := hX4.midc
  have L171 : Hid (MidC (wo147.heap.size) (v8.heap.size) v8 (ya4) (DQ) (yc4)) := hY4.midc
  clear hB hb158 B149 B150 B151 B152 B153 L154 L155 L156 L157 hX4 hY4
  have n172 := Abx.new v8 (.bool false) (.slice xa4 SQ.length xc4) (.slice ya4 DQ.length yc4)
  have l173 := ((B164.out.al (.cells #[.bool false, .slice xa4 SQ.length xc4, .slice ya4 DQ.length yc4] 24))).c0
  have l174 := ((B164.out.al (.cells #[.bool false, .slice xa4 SQ.length xc4, .slice ya4 DQ.length yc4] 24))).c1
  have l175 := ((B164.out.al (.cells #[.bool false, .slice xa4 SQ.length xc4, .slice ya4 DQ.length yc4] 24))).c2
  have l176 := (n172).c0
  have l177 := (n172).c1
  have l178 := (n172).c2
  go_wp2_with fail
  obtain ⟨wo179, hwo179⟩ : ∃ wo179, wo179 = (v8.alloc (.cells #[.bool false, .slice xa4 SQ.length xc4, .slice ya4 DQ.length yc4] 24)) := ⟨_, rfl⟩
  rw [← hwo179]
  have z180 : v8.heap.size + 1 ≤ wo179.heap.size := by rw [hwo179]; simp only [World.size_alloc]; omega
  have B181 : Hid (Abx wo179 (w.heap.size) (.bool false) (.slice sa1 sz1.length sc1) (.slice da1 dz1.length dc1)) := by rw [hwo179]; exact (B160.out.al (.cells #[.bool false, .slice xa4 SQ.length xc4, .slice ya4 DQ.length yc4] 24))
  have B182 : Hid (Abx wo179 (w.heap.size + 1) (.bool c2) (.slice sa2 sz2.length sc2) (.slice da2 dz2.length dc2)) := by rw [hwo179]; exact (B161.out.al (.cells #[.bool false, .slice xa4 SQ.length xc4, .slice ya4 DQ.length yc4] 24))
  have B183 : Hid (Abx wo179 (w.heap.size + 1 + 1) (.bool false) (.slice sa3 sz3.length sc3) (.slice da3 dz3.length dc3)) := by rw [hwo179]; exact (B162.out.al (.cells #[.bool false, .slice xa4 SQ.length xc4, .slice ya4 DQ.length yc4] 24))
  have B184 : Hid (Abx wo179 (v6.heap.size) (.bool false) (.slice xa2 SY.length xc2) (.slice ya2 DY.length yc2)) := by rw [hwo179]; exact (B163.out.al (.cells #[.bool false, .slice xa4 SQ.length xc4, .slice ya4 DQ.length yc4] 24))
  have B185 : Hid (Abx wo179 (v7.heap.size) (.bool false) (.slice xa3 SP.length xc3) (.slice ya3 DP.length yc3)) := by rw [hwo179]; exact (B164.out.al (.cells #[.bool false, .slice xa4 SQ.length xc4, .slice ya4 DQ.length yc4] 24))
  have B186 : Hid (Abx wo179 (v8.heap.size) (.bool false) (.slice xa4 SQ.length xc4) (.slice ya4 DQ.length yc4)) := by rw [hwo179]; exact n172
  have L187 : Hid (MidC (wo95.heap.size) (v6.heap.size) wo179 (xa2) (SY) (xc2)) := by rw [hwo179]; exact (L165.out.al (by omega) (.cells #[.bool false, .slice xa4 SQ.length xc4, .slice ya4 DQ.length yc4] 24))
  have L188 : Hid (MidC (wo95.heap.size) (v6.heap.size) wo179 (ya2) (DY) (yc2)) := by rw [hwo179]; exact (L166.out.al (by omega) (.cells #[.bool false, .slice xa4 SQ.length xc4, .slice ya4 DQ.length yc4] 24))
  have L189 : Hid (MidC (wo121.heap.size) (v7.heap.size) wo179 (xa3) (SP) (xc3)) := by rw [hwo179]; exact (L167.out.al (by omega) (.cells #[.bool false, .slice xa4 SQ.length xc4, .slice ya4 DQ.length yc4] 24))
  have L190 : Hid (MidC (wo121.heap.size) (v7.heap.size) wo179 (ya3) (DP) (yc3)) := by rw [hwo179]; exact (L168.out.al (by omega) (.cells #[.bool false, .slice xa4 SQ.length xc4, .slice ya4 DQ.length yc4] 24))
  have L191 : Hid (MidC (wo147.heap.size) (v8.heap.size) wo179 (xa4) (SQ) (xc4)) := by rw [hwo179]; exact (L170.out.al (by omega) (.cells #[.bool false, .slice xa4 SQ.length xc4, .slice ya4 DQ.length yc4] 24))
  have L192 : Hid (MidC (wo147.heap.size) (v8.heap.size) wo179 (ya4) (DQ) (yc4)) := by rw [hwo179]; exact (L171.out.al (by omega) (.cells #[.bool false, .slice xa4 SQ.length xc4, .slice ya4 DQ.length yc4] 24))
  have hb193 : Hid (Below w.heap.size w wo179) := by rw [hwo179]; exact (hb169.out.alloc (by omega) (.cells #[.bool false, .slice xa4 SQ.length xc4, .slice ya4 DQ.length yc4] 24))
  have zwo179 : w.heap.size ≤ wo179.heap.size := hb193.out.size
  clear hwo179 n172 l173 l174 l175 l176 l177 l178 hb169 B160 B161 B162 B163 B164 L165 L166 L167 L168 L170 L171
  refine (jn_ok 0 (by unfold In64; decide) false xa3 xc3 SP ya3 yc3 DP false xa4 xc4 SQ ya4 yc4 DQ _ (by omega) (by omega) (L189.out.is (by omega)) (L190.out.is (by omega)) HTT.out.1 (by omega) (by omega) (L191.out.is (by omega)) (L192.out.is (by omega)) HTT.out.2 SY DY HJn HR4.out).mono ?_
  rintro e v9 ⟨xa5, xc5, ya5, yc5, rfl, hX5, hY5, hB⟩
  have z194 : wo179.heap.size ≤ v9.heap.size := hB.size
  have B195 : Hid (Abx v9 (w.heap.size) (.bool false) (.slice sa1 sz1.length sc1) (.slice da1 dz1.length dc1)) := B181.out.go hB
  have B196 : Hid (Abx v9 (w.heap.size + 1) (.bool c2) (.slice sa2 sz2.length sc2) (.slice da2 dz2.length dc2)) := B182.out.go hB
  have B197 : Hid (Abx v9 (w.heap.size + 1 + 1) (.bool false) (.slice sa3 sz3.length sc3) (.slice da3 dz3.length dc3)) := B183.out.go hB
  have B198 : Hid (Abx v9 (v6.heap.size) (.bool false) (.slice xa2 SY.length xc2) (.slice ya2 DY.length yc2)) := B184.out.go hB
  have B199 : Hid (Abx v9 (v7.heap.size) (.bool false) (.slice xa3 SP.length xc3) (.slice ya3 DP.length yc3)) := B185.out.go hB
  have B200 : Hid (Abx v9 (v8.heap.size) (.bool false) (.slice xa4 SQ.length xc4) (.slice ya4 DQ.length yc4)) := B186.out.go hB
  have L201 : Hid (MidC (wo95.heap.size) (v6.heap.size) v9 (xa2) (SY) (xc2)) := L187.out.go (by omega) hB
  have L202 : Hid (MidC (wo95.heap.size) (v6.heap.size) v9 (ya2) (DY) (yc2)) := L188.out.go (by omega) hB
  have L203 : Hid (MidC (wo121.heap.size) (v7.heap.size) v9 (xa3) (SP) (xc3)) := L189.out.go (by omega) hB
  have L204 : Hid (MidC (wo121.heap.size) (v7.heap.size) v9 (ya3) (DP) (yc3)) := L190.out.go (by omega) hB
  have L205 : Hid (MidC (wo147.heap.size) (v8.heap.size) v9 (xa4) (SQ) (xc4)) := L191.out.go (by omega) hB
  have L206 : Hid (MidC (wo147.heap.size) (v8.heap.size) v9 (ya4) (DQ) (yc4)) := L192.out.go (by omega) hB
  have hb207 : Hid (Below w.heap.size w v9) := hb193.out.trans (hB.mono hb193.out.size)
  have L208 : Hid (MidC (wo179.heap.size) (v9.heap.size) v9 (xa5) (SY) (xc5)) := hX5.midc
  have L209 : Hid (MidC (wo179.heap.size) (v9.heap.size) v9 (ya5) (DY) (yc5)) := hY5.midc
  clear hB hb193 B181 B182 B183 B184 B185 B186 L187 L188 L189 L190 L191 L192 hX5 hY5
  clear L203 L204 L205 L206 B199 B200
  have n210 := Abx.new v9 (.bool false) (.slice xa5 SY.length xc5) (.slice ya5 DY.length yc5)
  have l211 := ((B198.out.al (.cells #[.bool false, .slice xa5 SY.length xc5, .slice ya5 DY.length yc5] 24))).c0
  have l212 := ((B198.out.al (.cells #[.bool false, .slice xa5 SY.length xc5, .slice ya5 DY.length yc5] 24))).c1
  have l213 := ((B198.out.al (.cells #[.bool false, .slice xa5 SY.length xc5, .slice ya5 DY.length yc5] 24))).c2
  have l214 := (n210).c0
  have l215 := (n210).c1
  have l216 := (n210).c2
  go_wp2_with fail
  obtain ⟨wo217, hwo217⟩ : ∃ wo217, wo217 = (v9.alloc (.cells #[.bool false, .slice xa5 SY.length xc5, .slice ya5 DY.length yc5] 24)) := ⟨_, rfl⟩
  rw [← hwo217]
  have z218 : v9.heap.size + 1 ≤ wo217.heap.size := by rw [hwo217]; simp only [World.size_alloc]; omega
  have B219 : Hid (Abx wo217 (w.heap.size) (.bool false) (.slice sa1 sz1.length sc1) (.slice da1 dz1.length dc1)) := by rw [hwo217]; exact (B195.out.al (.cells #[.bool false, .slice xa5 SY.length xc5, .slice ya5 DY.length yc5] 24))
  have B220 : Hid (Abx wo217 (w.heap.size + 1) (.bool c2) (.slice sa2 sz2.length sc2) (.slice da2 dz2.length dc2)) := by rw [hwo217]; exact (B196.out.al (.cells #[.bool false, .slice xa5 SY.length xc5, .slice ya5 DY.length yc5] 24))
  have B221 : Hid (Abx wo217 (w.heap.size + 1 + 1) (.bool false) (.slice sa3 sz3.length sc3) (.slice da3 dz3.length dc3)) := by rw [hwo217]; exact (B197.out.al (.cells #[.bool false, .slice xa5 SY.length xc5, .slice ya5 DY.length yc5] 24))
  have B222 : Hid (Abx wo217 (v6.heap.size) (.bool false) (.slice xa2 SY.length xc2) (.slice ya2 DY.length yc2)) := by rw [hwo217]; exact (B198.out.al (.cells #[.bool false, .slice xa5 SY.length xc5, .slice ya5 DY.length yc5] 24))
  have B223 : Hid (Abx wo217 (v9.heap.size) (.bool false) (.slice xa5 SY.length xc5) (.slice ya5 DY.length yc5)) := by rw [hwo217]; exact n210
  have L224 : Hid (MidC (wo95.heap.size) (v6.heap.size) wo217 (xa2) (SY) (xc2)) := by rw [hwo217]; exact (L201.out.al (by omega) (.cells #[.bool false, .slice xa5 SY.length xc5, .slice ya5 DY.length yc5] 24))
  have L225 : Hid (MidC (wo95.heap.size) (v6.heap.size) wo217 (ya2) (DY) (yc2)) := by rw [hwo217]; exact (L202.out.al (by omega) (.cells #[.bool false, .slice xa5 SY.length xc5, .slice ya5 DY.length yc5] 24))
  have L226 : Hid (MidC (wo179.heap.size) (v9.heap.size) wo217 (xa5) (SY) (xc5)) := by rw [hwo217]; exact (L208.out.al (by omega) (.cells #[.bool false, .slice xa5 SY.length xc5, .slice ya5 DY.length yc5] 24))
  have L227 : Hid (MidC (wo179.heap.size) (v9.heap.size) wo217 (ya5) (DY) (yc5)) := by rw [hwo217]; exact (L209.out.al (by omega) (.cells #[.bool false, .slice xa5 SY.length xc5, .slice ya5 DY.length yc5] 24))
  have hb228 : Hid (Below w.heap.size w wo217) := by rw [hwo217]; exact (hb207.out.alloc (by omega) (.cells #[.bool false, .slice xa5 SY.length xc5, .slice ya5 DY.length yc5] 24))
  have zwo217 : w.heap.size ≤ wo217.heap.size := hb228.out.size
  clear hwo217 n210 l211 l212 l213 l214 l215 l216 hb207 B195 B196 B197 B198 L201 L202 L208 L209
  refine (alike_eq false xa2 xc2 SY ya2 yc2 DY xa5 xc5 SY ya5 yc5 DY rfl rfl (by omega) (by omega) _ (L224.out.is (by omega)) (L225.out.is (by omega)).1 (L226.out.is (by omega)) (L227.out.is (by omega)).1).mono ?_
  rintro e v10 ⟨rfl, hB⟩
  have z229 : wo217.heap.size ≤ v10.heap.size := hB.size
  have B230 : Hid (Abx v10 (w.heap.size) (.bool false) (.slice sa1 sz1.length sc1) (.slice da1 dz1.length dc1)) := B219.out.go hB
  have B231 : Hid (Abx v10 (w.heap.size + 1) (.bool c2) (.slice sa2 sz2.length sc2) (.slice da2 dz2.length dc2)) := B220.out.go hB
  have B232 : Hid (Abx v10 (w.heap.size + 1 + 1) (.bool false) (.slice sa3 sz3.length sc3) (.slice da3 dz3.length dc3)) := B221.out.go hB
  have B233 : Hid (Abx v10 (v6.heap.size) (.bool false) (.slice xa2 SY.length xc2) (.slice ya2 DY.length yc2)) := B222.out.go hB
  have B234 : Hid (Abx v10 (v9.heap.size) (.bool false) (.slice xa5 SY.length xc5) (.slice ya5 DY.length yc5)) := B223.out.go hB
  have L235 : Hid (MidC (wo95.heap.size) (v6.heap.size) v10 (xa2) (SY) (xc2)) := L224.out.go (by omega) hB
  have L236 : Hid (MidC (wo95.heap.size) (v6.heap.size) v10 (ya2) (DY) (yc2)) := L225.out.go (by omega) hB
  have L237 : Hid (MidC (wo179.heap.size) (v9.heap.size) v10 (xa5) (SY) (xc5)) := L226.out.go (by omega) hB
  have L238 : Hid (MidC (wo179.heap.size) (v9.heap.size) v10 (ya5) (DY) (yc5)) := L227.out.go (by omega) hB
  have hb239 : Hid (Below w.heap.size w v10) := hb228.out.trans (hB.mono hb228.out.size)
  clear hB hb228 B219 B220 B221 B222 B223 L224 L225 L226 L227
  clear L235 L236 L237 L238 B233 B234
  have l240 := (B230.out).c0
  have l241 := (B230.out).c1
  have l242 := (B230.out).c2
  have l243 := (B232.out).c0
  have l244 := (B232.out).c1
  have l245 := (B232.out).c2
  go_wp2_with fail
  clear l240 l241 l242 l243 l244 l245
  refine (otw_ok 3 false sa1 sc1 sz1 sz1.length rfl da1 dc1 dz1 dz1.length rfl false sa3 sc3 sz3 sz3.length rfl da3 dc3 dz3 dz3.length rfl _ (by unfold In64; decide) x11 x12 ((HI1.out.1.1.below hb239.out).mono hb239.out.size) ((HI1.out.2.1.1.below hb239.out).mono hb239.out.size) HI1.out.2.2.2 x31 x32 ((HI3.out.1.1.below hb239.out).mono hb239.out.size) ((HI3.out.2.1.1.below hb239.out).mono hb239.out.size) HI3.out.2.2.2 SU DU HOt HU1.out).mono ?_
  rintro e v11 ⟨xa6, xc6, ya6, yc6, rfl, hX6, hY6, hB⟩
  have z246 : v10.heap.size ≤ v11.heap.size := hB.size
  have B247 : Hid (Abx v11 (w.heap.size) (.bool false) (.slice sa1 sz1.length sc1) (.slice da1 dz1.length dc1)) := B230.out.go hB
  have B248 : Hid (Abx v11 (w.heap.size + 1) (.bool c2) (.slice sa2 sz2.length sc2) (.slice da2 dz2.length dc2)) := B231.out.go hB
  have B249 : Hid (Abx v11 (w.heap.size + 1 + 1) (.bool false) (.slice sa3 sz3.length sc3) (.slice da3 dz3.length dc3)) := B232.out.go hB
  have hb250 : Hid (Below w.heap.size w v11) := hb239.out.trans (hB.mono hb239.out.size)
  have L251 : Hid (MidC (v10.heap.size) (v11.heap.size) v11 (xa6) (SU) (xc6)) := hX6.midc
  have L252 : Hid (MidC (v10.heap.size) (v11.heap.size) v11 (ya6) (DU) (yc6)) := hY6.midc
  clear hB hb239 B230 B231 B232 hX6 hY6
  have n253 := Abx.new v11 (.bool false) (.slice xa6 SU.length xc6) (.slice ya6 DU.length yc6)
  have l254 := (n253).c0
  have l255 := (n253).c1
  have l256 := (n253).c2
  go_wp2_with fail
  obtain ⟨wo257, hwo257⟩ : ∃ wo257, wo257 = (v11.alloc (.cells #[.bool false, .slice xa6 SU.length xc6, .slice ya6 DU.length yc6] 24)) := ⟨_, rfl⟩
  rw [← hwo257]
  have z258 : v11.heap.size + 1 ≤ wo257.heap.size := by rw [hwo257]; simp only [World.size_alloc]; omega
  have B259 : Hid (Abx wo257 (w.heap.size) (.bool false) (.slice sa1 sz1.length sc1) (.slice da1 dz1.length dc1)) := by rw [hwo257]; exact (B247.out.al (.cells #[.bool false, .slice xa6 SU.length xc6, .slice ya6 DU.length yc6] 24))
  have B260 : Hid (Abx wo257 (w.heap.size + 1) (.bool c2) (.slice sa2 sz2.length sc2) (.slice da2 dz2.length dc2)) := by rw [hwo257]; exact (B248.out.al (.cells #[.bool false, .slice xa6 SU.length xc6, .slice ya6 DU.length yc6] 24))
  have B261 : Hid (Abx wo257 (w.heap.size + 1 + 1) (.bool false) (.slice sa3 sz3.length sc3) (.slice da3 dz3.length dc3)) := by rw [hwo257]; exact (B249.out.al (.cells #[.bool false, .slice xa6 SU.length xc6, .slice ya6 DU.length yc6] 24))
  have B262 : Hid (Abx wo257 (v11.heap.size) (.bool false) (.slice xa6 SU.length xc6) (.slice ya6 DU.length yc6)) := by rw [hwo257]; exact n253
  have L263 : Hid (MidC (v10.heap.size) (v11.heap.size) wo257 (xa6) (SU) (xc6)) := by rw [hwo257]; exact (L251.out.al (by omega) (.cells #[.bool false, .slice xa6 SU.length xc6, .slice ya6 DU.length yc6] 24))
  have L264 : Hid (MidC (v10.heap.size) (v11.heap.size) wo257 (ya6) (DU) (yc6)) := by rw [hwo257]; exact (L252.out.al (by omega) (.cells #[.bool false, .slice xa6 SU.length xc6, .slice ya6 DU.length yc6] 24))
  have hb265 : Hid (Below w.heap.size w wo257) := by rw [hwo257]; exact (hb250.out.alloc (by omega) (.cells #[.bool false, .slice xa6 SU.length xc6, .slice ya6 DU.length yc6] 24))
  have zwo257 : w.heap.size ≤ wo257.heap.size := hb265.out.size
  clear hwo257 n253 l254 l255 l256 hb250 B247 B248 B249 L251 L252
  refine (rdw_ok 1 1 false xa6 xc6 SU SU.length rfl ya6 yc6 DU DU.length rfl _ (by unfold In64; decide) (by unfold In64; decide) (by omega) (by omega) (L263.out.is (by omega)) (L264.out.is (by omega)).1 HUT.out.1 sz1 DW HRd HU2.out).mono ?_
  rintro e v12 ⟨xa7, xc7, ya7, yc7, rfl, hX7, hY7, hB⟩
  have z266 : wo257.heap.size ≤ v12.heap.size := hB.size
  have B267 : Hid (Abx v12 (w.heap.size) (.bool false) (.slice sa1 sz1.length sc1) (.slice da1 dz1.length dc1)) := B259.out.go hB
  have B268 : Hid (Abx v12 (w.heap.size + 1) (.bool c2) (.slice sa2 sz2.length sc2) (.slice da2 dz2.length dc2)) := B260.out.go hB
  have B269 : Hid (Abx v12 (w.heap.size + 1 + 1) (.bool false) (.slice sa3 sz3.length sc3) (.slice da3 dz3.length dc3)) := B261.out.go hB
  have B270 : Hid (Abx v12 (v11.heap.size) (.bool false) (.slice xa6 SU.length xc6) (.slice ya6 DU.length yc6)) := B262.out.go hB
  have L271 : Hid (MidC (v10.heap.size) (v11.heap.size) v12 (xa6) (SU) (xc6)) := L263.out.go (by omega) hB
  have L272 : Hid (MidC (v10.heap.size) (v11.heap.size) v12 (ya6) (DU) (yc6)) := L264.out.go (by omega) hB
  have hb273 : Hid (Below w.heap.size w v12) := hb265.out.trans (hB.mono hb265.out.size)
  have L274 : Hid (MidC (wo257.heap.size) (v12.heap.size) v12 (xa7) (sz1) (xc7)) := hX7.midc
  have L275 : Hid (MidC (wo257.heap.size) (v12.heap.size) v12 (ya7) (DW) (yc7)) := hY7.midc
  clear hB hb265 B259 B260 B261 B262 L263 L264 hX7 hY7
  clear L271 L272
  have l276 := (B270.out).fr 0
  have l277 := (B270.out).c0
  have l278 := (B270.out).fr 1
  have l279 := (B270.out).c1
  have l280 := (B270.out).fr 2
  have l281 := (B270.out).c2
  have l282 := ((abx_o3 B269.out (B := v11.heap.size) (by omega) (.bool false) (.slice xa7 sz1.length xc7) (.slice ya7 DW.length yc7))).c0
  have l283 := ((abx_o3 B269.out (B := v11.heap.size) (by omega) (.bool false) (.slice xa7 sz1.length xc7) (.slice ya7 DW.length yc7))).c1
  have l284 := ((abx_o3 B269.out (B := v11.heap.size) (by omega) (.bool false) (.slice xa7 sz1.length xc7) (.slice ya7 DW.length yc7))).c2
  go_wp2_with fail
  obtain ⟨wo285, hwo285⟩ : ∃ wo285, wo285 = (((v12.setCell ⟨v11.heap.size, 0, none⟩ (.bool false)).setCell ⟨v11.heap.size, 1, none⟩ (.slice xa7 sz1.length xc7)).setCell ⟨v11.heap.size, 2, none⟩ (.slice ya7 DW.length yc7)) := ⟨_, rfl⟩
  rw [← hwo285]
  have z286 : v12.heap.size ≤ wo285.heap.size := by rw [hwo285]; simp only [World.size_setCell]; omega
  have B287 : Hid (Abx wo285 (w.heap.size) (.bool false) (.slice sa1 sz1.length sc1) (.slice da1 dz1.length dc1)) := by rw [hwo285]; exact (abx_o3 B267.out (B := v11.heap.size) (by omega) (.bool false) (.slice xa7 sz1.length xc7) (.slice ya7 DW.length yc7))
  have B288 : Hid (Abx wo285 (w.heap.size + 1) (.bool c2) (.slice sa2 sz2.length sc2) (.slice da2 dz2.length dc2)) := by rw [hwo285]; exact (abx_o3 B268.out (B := v11.heap.size) (by omega) (.bool false) (.slice xa7 sz1.length xc7) (.slice ya7 DW.length yc7))
  have B289 : Hid (Abx wo285 (w.heap.size + 1 + 1) (.bool false) (.slice sa3 sz3.length sc3) (.slice da3 dz3.length dc3)) := by rw [hwo285]; exact (abx_o3 B269.out (B := v11.heap.size) (by omega) (.bool false) (.slice xa7 sz1.length xc7) (.slice ya7 DW.length yc7))
  have B290 : Hid (Abx wo285 (v11.heap.size) (.bool false) (.slice xa7 sz1.length xc7) (.slice ya7 DW.length yc7)) := by rw [hwo285]; exact (B270.out.set3 (.bool false) (.slice xa7 sz1.length xc7) (.slice ya7 DW.length yc7))
  have L291 : Hid (MidC (wo257.heap.size) (v12.heap.size) wo285 (xa7) (sz1) (xc7)) := by rw [hwo285]; exact (L274.out.s3 (b := v11.heap.size) (by omega) (.bool false) (.slice xa7 sz1.length xc7) (.slice ya7 DW.length yc7))
  have L292 : Hid (MidC (wo257.heap.size) (v12.heap.size) wo285 (ya7) (DW) (yc7)) := by rw [hwo285]; exact (L275.out.s3 (b := v11.heap.size) (by omega) (.bool false) (.slice xa7 sz1.length xc7) (.slice ya7 DW.length yc7))
  have hb293 : Hid (Below w.heap.size w wo285) := by rw [hwo285]; exact (bel_s3 hb273.out (B := v11.heap.size) (by omega) (.bool false) (.slice xa7 sz1.length xc7) (.slice ya7 DW.length yc7))
  have zwo285 : w.heap.size ≤ wo285.heap.size := hb293.out.size
  clear hwo285 l276 l277 l278 l279 l280 l281 l282 l283 l284 hb273 B267 B268 B269 B270 L274 L275
  refine (rdw_ok 1 0 false sa3 sc3 sz3 sz3.length rfl da3 dc3 dz3 dz3.length rfl _ (by unfold In64; decide) (by unfold In64; decide) x31 x32 ((HI3.out.1.below hb293.out).mono hb293.out.size) ((HI3.out.2.1.1.below hb293.out).mono hb293.out.size) HI3.out.2.2.2 [] [V] HRd HU3.out).mono ?_
  rintro e v13 ⟨xa8, xc8, ya8, yc8, rfl, hX8, hY8, hB⟩
  have z294 : wo285.heap.size ≤ v13.heap.size := hB.size
  have B295 : Hid (Abx v13 (w.heap.size) (.bool false) (.slice sa1 sz1.length sc1) (.slice da1 dz1.length dc1)) := B287.out.go hB
  have B296 : Hid (Abx v13 (w.heap.size + 1) (.bool c2) (.slice sa2 sz2.length sc2) (.slice da2 dz2.length dc2)) := B288.out.go hB
  have B297 : Hid (Abx v13 (w.heap.size + 1 + 1) (.bool false) (.slice sa3 sz3.length sc3) (.slice da3 dz3.length dc3)) := B289.out.go hB
  have B298 : Hid (Abx v13 (v11.heap.size) (.bool false) (.slice xa7 sz1.length xc7) (.slice ya7 DW.length yc7)) := B290.out.go hB
  have L299 : Hid (MidC (wo257.heap.size) (v12.heap.size) v13 (xa7) (sz1) (xc7)) := L291.out.go (by omega) hB
  have L300 : Hid (MidC (wo257.heap.size) (v12.heap.size) v13 (ya7) (DW) (yc7)) := L292.out.go (by omega) hB
  have hb301 : Hid (Below w.heap.size w v13) := hb293.out.trans (hB.mono hb293.out.size)
  have L302 : Hid (MidC (wo285.heap.size) (v13.heap.size) v13 (xa8) ([]) (xc8)) := hX8.midc
  have L303 : Hid (MidC (wo285.heap.size) (v13.heap.size) v13 (ya8) ([V]) (yc8)) := hY8.midc
  clear hB hb293 B287 B288 B289 B290 L291 L292 hX8 hY8
  have n304 := Abx.new v13 (.bool false) (.slice xa8 0 xc8) (.slice ya8 1 yc8)
  have l305 := ((B295.out.al (.cells #[.bool false, .slice xa8 0 xc8, .slice ya8 1 yc8] 24))).c0
  have l306 := ((B295.out.al (.cells #[.bool false, .slice xa8 0 xc8, .slice ya8 1 yc8] 24))).c1
  have l307 := ((B295.out.al (.cells #[.bool false, .slice xa8 0 xc8, .slice ya8 1 yc8] 24))).c2
  have l308 := (n304).c0
  have l309 := (n304).c1
  have l310 := (n304).c2
  go_wp2_with fail
  obtain ⟨wo311, hwo311⟩ : ∃ wo311, wo311 = (v13.alloc (.cells #[.bool false, .slice xa8 0 xc8, .slice ya8 1 yc8] 24)) := ⟨_, rfl⟩
  rw [← hwo311]
  have z312 : v13.heap.size + 1 ≤ wo311.heap.size := by rw [hwo311]; simp only [World.size_alloc]; omega
  have B313 : Hid (Abx wo311 (w.heap.size) (.bool false) (.slice sa1 sz1.length sc1) (.slice da1 dz1.length dc1)) := by rw [hwo311]; exact (B295.out.al (.cells #[.bool false, .slice xa8 0 xc8, .slice ya8 1 yc8] 24))
  have B314 : Hid (Abx wo311 (w.heap.size + 1) (.bool c2) (.slice sa2 sz2.length sc2) (.slice da2 dz2.length dc2)) := by rw [hwo311]; exact (B296.out.al (.cells #[.bool false, .slice xa8 0 xc8, .slice ya8 1 yc8] 24))
  have B315 : Hid (Abx wo311 (w.heap.size + 1 + 1) (.bool false) (.slice sa3 sz3.length sc3) (.slice da3 dz3.length dc3)) := by rw [hwo311]; exact (B297.out.al (.cells #[.bool false, .slice xa8 0 xc8, .slice ya8 1 yc8] 24))
  have B316 : Hid (Abx wo311 (v11.heap.size) (.bool false) (.slice xa7 sz1.length xc7) (.slice ya7 DW.length yc7)) := by rw [hwo311]; exact (B298.out.al (.cells #[.bool false, .slice xa8 0 xc8, .slice ya8 1 yc8] 24))
  have B317 : Hid (Abx wo311 (v13.heap.size) (.bool false) (.slice xa8 0 xc8) (.slice ya8 1 yc8)) := by rw [hwo311]; exact n304
  have L318 : Hid (MidC (wo257.heap.size) (v12.heap.size) wo311 (xa7) (sz1) (xc7)) := by rw [hwo311]; exact (L299.out.al (by omega) (.cells #[.bool false, .slice xa8 0 xc8, .slice ya8 1 yc8] 24))
  have L319 : Hid (MidC (wo257.heap.size) (v12.heap.size) wo311 (ya7) (DW) (yc7)) := by rw [hwo311]; exact (L300.out.al (by omega) (.cells #[.bool false, .slice xa8 0 xc8, .slice ya8 1 yc8] 24))
  have L320 : Hid (MidC (wo285.heap.size) (v13.heap.size) wo311 (xa8) ([]) (xc8)) := by rw [hwo311]; exact (L302.out.al (by omega) (.cells #[.bool false, .slice xa8 0 xc8, .slice ya8 1 yc8] 24))
  have L321 : Hid (MidC (wo285.heap.size) (v13.heap.size) wo311 (ya8) ([V]) (yc8)) := by rw [hwo311]; exact (L303.out.al (by omega) (.cells #[.bool false, .slice xa8 0 xc8, .slice ya8 1 yc8] 24))
  have hb322 : Hid (Below w.heap.size w wo311) := by rw [hwo311]; exact (hb301.out.alloc (by omega) (.cells #[.bool false, .slice xa8 0 xc8, .slice ya8 1 yc8] 24))
  have zwo311 : w.heap.size ≤ wo311.heap.size := hb322.out.size
  clear hwo311 n304 l305 l306 l307 l308 l309 l310 hb301 B295 B296 B297 B298 L299 L300 L302 L303
  refine (c2w_ok H2 3 false sa1 sc1 sz1 sz1.length rfl da1 dc1 dz1 dz1.length rfl false xa8 xc8 [] 0 rfl ya8 yc8 [V] 1 rfl _ (by unfold In64; decide) x11 x12 ((HI1.out.1.1.below hb322.out).mono hb322.out.size) ((HI1.out.2.1.1.below hb322.out).mono hb322.out.size) HI1.out.2.2.2 (by decide) (by decide) (L320.out.is (by omega)).1 (L321.out.is (by omega)).1 HUT.out.2 sz1 DW HU4.out).mono ?_
  rintro e v14 ⟨xa9, xc9, ya9, yc9, rfl, hX9, hY9, hB⟩
  have z323 : wo311.heap.size ≤ v14.heap.size := hB.size
  have B324 : Hid (Abx v14 (w.heap.size) (.bool false) (.slice sa1 sz1.length sc1) (.slice da1 dz1.length dc1)) := B313.out.go hB
  have B325 : Hid (Abx v14 (w.heap.size + 1) (.bool c2) (.slice sa2 sz2.length sc2) (.slice da2 dz2.length dc2)) := B314.out.go hB
  have B326 : Hid (Abx v14 (w.heap.size + 1 + 1) (.bool false) (.slice sa3 sz3.length sc3) (.slice da3 dz3.length dc3)) := B315.out.go hB
  have B327 : Hid (Abx v14 (v11.heap.size) (.bool false) (.slice xa7 sz1.length xc7) (.slice ya7 DW.length yc7)) := B316.out.go hB
  have B328 : Hid (Abx v14 (v13.heap.size) (.bool false) (.slice xa8 0 xc8) (.slice ya8 1 yc8)) := B317.out.go hB
  have L329 : Hid (MidC (wo257.heap.size) (v12.heap.size) v14 (xa7) (sz1) (xc7)) := L318.out.go (by omega) hB
  have L330 : Hid (MidC (wo257.heap.size) (v12.heap.size) v14 (ya7) (DW) (yc7)) := L319.out.go (by omega) hB
  have L331 : Hid (MidC (wo285.heap.size) (v13.heap.size) v14 (xa8) ([]) (xc8)) := L320.out.go (by omega) hB
  have L332 : Hid (MidC (wo285.heap.size) (v13.heap.size) v14 (ya8) ([V]) (yc8)) := L321.out.go (by omega) hB
  have hb333 : Hid (Below w.heap.size w v14) := hb322.out.trans (hB.mono hb322.out.size)
  have L334 : Hid (MidC (wo311.heap.size) (v14.heap.size) v14 (xa9) (sz1) (xc9)) := hX9.midc
  have L335 : Hid (MidC (wo311.heap.size) (v14.heap.size) v14 (ya9) (DW) (yc9)) := hY9.midc
  clear hB hb322 B313 B314 B315 B316 B317 L318 L319 L320 L321 hX9 hY9
  clear L331 L332 B328
  have n336 := Abx.new v14 (.bool false) (.slice xa9 sz1.length xc9) (.slice ya9 DW.length yc9)
  have l337 := ((B327.out.al (.cells #[.bool false, .slice xa9 sz1.length xc9, .slice ya9 DW.length yc9] 24))).c0
  have l338 := ((B327.out.al (.cells #[.bool false, .slice xa9 sz1.length xc9, .slice ya9 DW.length yc9] 24))).c1
  have l339 := ((B327.out.al (.cells #[.bool false, .slice xa9 sz1.length xc9, .slice ya9 DW.length yc9] 24))).c2
  have l340 := (n336).c0
  have l341 := (n336).c1
  have l342 := (n336).c2
  go_wp2_with fail
  obtain ⟨wo343, hwo343⟩ : ∃ wo343, wo343 = (v14.alloc (.cells #[.bool false, .slice xa9 sz1.length xc9, .slice ya9 DW.length yc9] 24)) := ⟨_, rfl⟩
  rw [← hwo343]
  have z344 : v14.heap.size + 1 ≤ wo343.heap.size := by rw [hwo343]; simp only [World.size_alloc]; omega
  have B345 : Hid (Abx wo343 (w.heap.size) (.bool false) (.slice sa1 sz1.length sc1) (.slice da1 dz1.length dc1)) := by rw [hwo343]; exact (B324.out.al (.cells #[.bool false, .slice xa9 sz1.length xc9, .slice ya9 DW.length yc9] 24))
  have B346 : Hid (Abx wo343 (w.heap.size + 1) (.bool c2) (.slice sa2 sz2.length sc2) (.slice da2 dz2.length dc2)) := by rw [hwo343]; exact (B325.out.al (.cells #[.bool false, .slice xa9 sz1.length xc9, .slice ya9 DW.length yc9] 24))
  have B347 : Hid (Abx wo343 (w.heap.size + 1 + 1) (.bool false) (.slice sa3 sz3.length sc3) (.slice da3 dz3.length dc3)) := by rw [hwo343]; exact (B326.out.al (.cells #[.bool false, .slice xa9 sz1.length xc9, .slice ya9 DW.length yc9] 24))
  have B348 : Hid (Abx wo343 (v11.heap.size) (.bool false) (.slice xa7 sz1.length xc7) (.slice ya7 DW.length yc7)) := by rw [hwo343]; exact (B327.out.al (.cells #[.bool false, .slice xa9 sz1.length xc9, .slice ya9 DW.length yc9] 24))
  have B349 : Hid (Abx wo343 (v14.heap.size) (.bool false) (.slice xa9 sz1.length xc9) (.slice ya9 DW.length yc9)) := by rw [hwo343]; exact n336
  have L350 : Hid (MidC (wo257.heap.size) (v12.heap.size) wo343 (xa7) (sz1) (xc7)) := by rw [hwo343]; exact (L329.out.al (by omega) (.cells #[.bool false, .slice xa9 sz1.length xc9, .slice ya9 DW.length yc9] 24))
  have L351 : Hid (MidC (wo257.heap.size) (v12.heap.size) wo343 (ya7) (DW) (yc7)) := by rw [hwo343]; exact (L330.out.al (by omega) (.cells #[.bool false, .slice xa9 sz1.length xc9, .slice ya9 DW.length yc9] 24))
  have L352 : Hid (MidC (wo311.heap.size) (v14.heap.size) wo343 (xa9) (sz1) (xc9)) := by rw [hwo343]; exact (L334.out.al (by omega) (.cells #[.bool false, .slice xa9 sz1.length xc9, .slice ya9 DW.length yc9] 24))
  have L353 : Hid (MidC (wo311.heap.size) (v14.heap.size) wo343 (ya9) (DW) (yc9)) := by rw [hwo343]; exact (L335.out.al (by omega) (.cells #[.bool false, .slice xa9 sz1.length xc9, .slice ya9 DW.length yc9] 24))
  have hb354 : Hid (Below w.heap.size w wo343) := by rw [hwo343]; exact (hb333.out.alloc (by omega) (.cells #[.bool false, .slice xa9 sz1.length xc9, .slice ya9 DW.length yc9] 24))
  have zwo343 : w.heap.size ≤ wo343.heap.size := hb354.out.size
  clear hwo343 n336 l337 l338 l339 l340 l341 l342 hb333 B324 B325 B326 B327 L329 L330 L334 L335
  refine (alike_eq false xa7 xc7 sz1 ya7 yc7 DW xa9 xc9 sz1 ya9 yc9 DW rfl rfl (by omega) (by omega) _ (L350.out.is (by omega)) (L351.out.is (by omega)).1 (L352.out.is (by omega)) (L353.out.is (by omega)).1).mono ?_
  rintro e v15 ⟨rfl, hB⟩
  have z355 : wo343.heap.size ≤ v15.heap.size := hB.size
  have B356 : Hid (Abx v15 (w.heap.size) (.bool false) (.slice sa1 sz1.length sc1) (.slice da1 dz1.length dc1)) := B345.out.go hB
  have B357 : Hid (Abx v15 (w.heap.size + 1) (.bool c2) (.slice sa2 sz2.length sc2) (.slice da2 dz2.length dc2)) := B346.out.go hB
  have B358 : Hid (Abx v15 (w.heap.size + 1 + 1) (.bool false) (.slice sa3 sz3.length sc3) (.slice da3 dz3.length dc3)) := B347.out.go hB
  have B359 : Hid (Abx v15 (v11.heap.size) (.bool false) (.slice xa7 sz1.length xc7) (.slice ya7 DW.length yc7)) := B348.out.go hB
  have B360 : Hid (Abx v15 (v14.heap.size) (.bool false) (.slice xa9 sz1.length xc9) (.slice ya9 DW.length yc9)) := B349.out.go hB
  have L361 : Hid (MidC (wo257.heap.size) (v12.heap.size) v15 (xa7) (sz1) (xc7)) := L350.out.go (by omega) hB
  have L362 : Hid (MidC (wo257.heap.size) (v12.heap.size) v15 (ya7) (DW) (yc7)) := L351.out.go (by omega) hB
  have L363 : Hid (MidC (wo311.heap.size) (v14.heap.size) v15 (xa9) (sz1) (xc9)) := L352.out.go (by omega) hB
  have L364 : Hid (MidC (wo311.heap.size) (v14.heap.size) v15 (ya9) (DW) (yc9)) := L353.out.go (by omega) hB
  have hb365 : Hid (Below w.heap.size w v15) := hb354.out.trans (hB.mono hb354.out.size)
  clear hB hb354 B345 B346 B347 B348 B349 L350 L351 L352 L353
  go_wp2_with fail
  go_ret
  exact ⟨rfl, hb365.out⟩
theorem pparts_walk (HOt : COt) (HJn : CJn) (HRd : CRd) (H2 : C2d) (f : Int) (hf : In64 f) (c1 : Bool) (sa1 : Option Addr) (sc1 : Nat) (sz1 : List Int) (da1 : Option Addr) (dc1 : Nat) (dz1 : List Int) (c2 : Bool) (sa2 : Option Addr) (sc2 : Nat) (sz2 : List Int) (da2 : Option Addr) (dc2 : Nat) (dz2 : List Int) (c3 : Bool) (sa3 : Option Addr) (sc3 : Nat) (sz3 : List Int) (da3 : Option Addr) (dc3 : Nat) (dz3 : List Int) (w : World) (w8 : IsArrD w sa1 sz1 sc1 da1 dz1 dc1) (w9 : IsArrD w sa2 sz2 sc2 da2 dz2 dc2) (w10 : IsArrD w sa3 sz3 sc3 da3 dz3 dc3) :
    Calls Try.prog 4 #[.int .i64 f, .agg #[.bool c1, .slice sa1 sz1.length sc1, .slice da1 dz1.length dc1], .agg #[.bool c2, .slice sa2 sz2.length sc2, .slice da2 dz2.length dc2], .agg #[.bool c3, .slice sa3 sz3.length sc3, .slice da3 dz3.length dc3]] w fun e w' => e = .returned (.bool true) ∧ Below w.heap.size w w' := by
  by_cases j : jnE 0 c1 sz1 dz1 c2 sz2 dz2 = 0
  · by_cases o : otE f c1 (jnS (0 : Int).toNat sz1 sz2) (jnD (0 : Int).toNat sz1 dz1 sz2 dz2) c3 sz3 dz3 = 0
    · have o' : ∀ S0 D0, jnS (0 : Int).toNat sz1 sz2 = S0 → jnD (0 : Int).toNat sz1 dz1 sz2 dz2 = D0 → otE f c1 S0 D0 c3 sz3 dz3 = 0 := fun _ _ a b => by rw [← a, ← b]; exact o
      by_cases k3 : c3 = true
      · exact parts_c3 HOt HJn HRd H2 f hf c1 sa1 sc1 sz1 da1 dc1 dz1 c2 sa2 sc2 sz2 da2 dc2 dz2 c3 sa3 sc3 sz3 da3 dc3 dz3 w w8 w9 w10 j o' k3
      · by_cases k1 : c1 = true
        · exact parts_c1 HOt HJn HRd H2 f hf c1 sa1 sc1 sz1 da1 dc1 dz1 c2 sa2 sc2 sz2 da2 dc2 dz2 c3 sa3 sc3 sz3 da3 dc3 dz3 w w8 w9 w10 j o' (by simpa using k3) k1
        · by_cases l1 : sz1.length = 1
          · by_cases l3 : sz3.length = 1
            · exact parts_ok HOt HJn HRd H2 f hf c1 sa1 sc1 sz1 da1 dc1 dz1 c2 sa2 sc2 sz2 da2 dc2 dz2 c3 sa3 sc3 sz3 da3 dc3 dz3 w w8 w9 w10 j o' (by simpa using k3) (by simpa using k1) l1 l3
            · exact parts_l3 HOt HJn HRd H2 f hf c1 sa1 sc1 sz1 da1 dc1 dz1 c2 sa2 sc2 sz2 da2 dc2 dz2 c3 sa3 sc3 sz3 da3 dc3 dz3 w w8 w9 w10 j o' (by simpa using k3) (by simpa using k1) l1 l3
          · exact parts_l1 HOt HJn HRd H2 f hf c1 sa1 sc1 sz1 da1 dc1 dz1 c2 sa2 sc2 sz2 da2 dc2 dz2 c3 sa3 sc3 sz3 da3 dc3 dz3 w w8 w9 w10 j o' (by simpa using k3) (by simpa using k1) l1
    · exact parts_o HOt HJn HRd H2 f hf c1 sa1 sc1 sz1 da1 dc1 dz1 c2 sa2 sc2 sz2 da2 dc2 dz2 c3 sa3 sc3 sz3 da3 dc3 dz3 w w8 w9 w10 j fun _ _ a b => by rw [← a, ← b]; exact o
  · exact parts_j HOt HJn HRd H2 f hf c1 sa1 sc1 sz1 da1 dc1 dz1 c2 sa2 sc2 sz2 da2 dc2 dz2 c3 sa3 sc3 sz3 da3 dc3 dz3 w w8 w9 w10 j
end Go.Proofs.Ytcpmendkocnlhab
