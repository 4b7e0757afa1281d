/-
  The walk of the statement ProdSums, given what the program tells.
-/
import Derived.Test.YtcpmendkocnlhaaPrdx
import Derived.Test.YtcpmendkocnlhaaPrdw
import Derived.Test.YtcpmendkocnlhaaPrdy
import Derived.Test.YtcpmendkocnlhaaPair
import Derived.Test.YtcpmendkocnlhaaHold
import Derived.Test.YtcpmendkocnlhaaFldx
import Derived.Test.YtcpmendkocnlhaaMidc
import Derived.Test.YtcpmendkocnlhaaSarr
namespace Go.Proofs.Ytcpmendkocnlhaa
open Go.RowKit
set_option linter.unusedVariables false

set_option maxRecDepth 100000 in
set_option maxHeartbeats 4000000 in
theorem sums_g1 (HNi : CNi) (H2 : C2d) (c1 : Bool) (sa1 : Option Addr) (sc1 : Nat) (sz1 : List Int) (da1 : Option Addr) (dc1 : Nat) (dz1 : List Int) (c2 : Bool) (sa2 : Option Addr) (sc2 : Nat) (sz2 : List Int) (da2 : Option Addr) (dc2 : Nat) (dz2 : List Int) (c3 : Bool) (sa3 : Option Addr) (sc3 : Nat) (sz3 : List Int) (da3 : Option Addr) (dc3 : Nat) (dz3 : List Int) (w : World) (w8 : IsArrD w sa1 sz1 sc1 da1 dz1 dc1) (w9 : IsArrD w sa2 sz2 sc2 da2 dz2 dc2) (w10 : IsArrD w sa3 sz3 sc3 da3 dz3 dc3) (G1 : Hid (¬ GrdP 16 c1 sz1 dz1)) :
    Calls Try.prog 5 #[.agg #[.bool c1, .slice sa1 sz1.length sc1, .slice da1 dz1.length dc1], .agg #[.bool c2, .slice sa2 sz2.length sc2, .slice da2 dz2.length dc2], .agg #[.bool c3, .slice sa3 sz3.length sc3, .slice da3 dz3.length dc3]] w fun e w' => e = .returned (.bool true) ∧ Below w.heap.size w w' := by
  obtain ⟨x11, x12, x3, x4, s64, T⟩ := w8
  have HI1 : Hid (IsC w.heap.size w sa1 sz1 sc1 ∧ IsC w.heap.size w da1 dz1 dc1 ∧ (∀ j, In64 (nth sz1 j)) ∧ ∀ j, In64 (nth dz1 j)) := ⟨x3, x4, s64, T⟩
  clear x3 x4 T s64
  obtain ⟨x21, x22, x3, x4, s64, T⟩ := w9
  have HI2 : Hid (IsC w.heap.size w sa2 sz2 sc2 ∧ IsC w.heap.size w da2 dz2 dc2 ∧ (∀ j, In64 (nth sz2 j)) ∧ ∀ j, In64 (nth dz2 j)) := ⟨x3, x4, s64, T⟩
  clear x3 x4 T s64
  obtain ⟨x31, x32, x3, x4, s64, T⟩ := w10
  have HI3 : Hid (IsC w.heap.size w sa3 sz3 sc3 ∧ IsC w.heap.size w da3 dz3 dc3 ∧ (∀ j, In64 (nth sz3 j)) ∧ ∀ j, In64 (nth dz3 j)) := ⟨x3, x4, s64, T⟩
  clear x3 x4 T s64
  have hdum : True := trivial
  have n1 := Abx.new w (.bool c1) (.slice sa1 sz1.length sc1) (.slice da1 dz1.length dc1)
  have n2 := Abx.new (w.alloc (.cells #[.bool c1, .slice sa1 sz1.length sc1, .slice da1 dz1.length dc1] 25)) (.bool c2) (.slice sa2 sz2.length sc2) (.slice da2 dz2.length dc2)
  simp only [World.size_alloc] at n2
  have n3 := Abx.new ((w.alloc (.cells #[.bool c1, .slice sa1 sz1.length sc1, .slice da1 dz1.length dc1] 25)).alloc (.cells #[.bool c2, .slice sa2 sz2.length sc2, .slice da2 dz2.length dc2] 25)) (.bool c3) (.slice sa3 sz3.length sc3) (.slice da3 dz3.length dc3)
  simp only [World.size_alloc] at n3
  have n4 := lit_mid (((w.alloc (.cells #[.bool c1, .slice sa1 sz1.length sc1, .slice da1 dz1.length dc1] 25)).alloc (.cells #[.bool c2, .slice sa2 sz2.length sc2, .slice da2 dz2.length dc2] 25)).alloc (.cells #[.bool c3, .slice sa3 sz3.length sc3, .slice da3 dz3.length dc3] 25)) 3 [1, 1] 2 rfl
  simp only [World.size_alloc, List.map_cons, List.map_nil] at n4
  go_enter Try.func5, Try.ntmps5
  go_wp2_with fail
  obtain ⟨wo5, hwo5⟩ : ∃ wo5, wo5 = ((((w.alloc (.cells #[.bool c1, .slice sa1 sz1.length sc1, .slice da1 dz1.length dc1] 25)).alloc (.cells #[.bool c2, .slice sa2 sz2.length sc2, .slice da2 dz2.length dc2] 25)).alloc (.cells #[.bool c3, .slice sa3 sz3.length sc3, .slice da3 dz3.length dc3] 25)).alloc (.cells #[.int .i64 1, .int .i64 1] 3)) := ⟨_, rfl⟩
  rw [← hwo5]
  have z6 : w.heap.size + 1 + 1 + 1 + 1 ≤ wo5.heap.size := by rw [hwo5]; simp only [World.size_alloc]; omega
  have B7 : Hid (Abx wo5 (w.heap.size) (.bool c1) (.slice sa1 sz1.length sc1) (.slice da1 dz1.length dc1)) := by rw [hwo5]; exact (((n1.al (.cells #[.bool c2, .slice sa2 sz2.length sc2, .slice da2 dz2.length dc2] 25)).al (.cells #[.bool c3, .slice sa3 sz3.length sc3, .slice da3 dz3.length dc3] 25)).al (.cells #[.int .i64 1, .int .i64 1] 3))
  have B8 : Hid (Abx wo5 (w.heap.size + 1) (.bool c2) (.slice sa2 sz2.length sc2) (.slice da2 dz2.length dc2)) := by rw [hwo5]; exact ((n2.al (.cells #[.bool c3, .slice sa3 sz3.length sc3, .slice da3 dz3.length dc3] 25)).al (.cells #[.int .i64 1, .int .i64 1] 3))
  have B9 : Hid (Abx wo5 (w.heap.size + 1 + 1) (.bool c3) (.slice sa3 sz3.length sc3) (.slice da3 dz3.length dc3)) := by rw [hwo5]; exact (n3.al (.cells #[.int .i64 1, .int .i64 1] 3))
  have L10 : Hid (MidC (w.heap.size + 1 + 1 + 1) (w.heap.size + 1 + 1 + 1 + 1) wo5 (some ⟨w.heap.size + 1 + 1 + 1, 0, none⟩) ([1, 1]) (2)) := by rw [hwo5]; exact n4
  have hb11 : Hid (Below w.heap.size w wo5) := by rw [hwo5]; exact (((((Below.refl w.heap.size w).alloc (by omega) (.cells #[.bool c1, .slice sa1 sz1.length sc1, .slice da1 dz1.length dc1] 25)).alloc (by simp only [World.size_alloc]; omega) (.cells #[.bool c2, .slice sa2 sz2.length sc2, .slice da2 dz2.length dc2] 25)).alloc (by simp only [World.size_alloc]; omega) (.cells #[.bool c3, .slice sa3 sz3.length sc3, .slice da3 dz3.length dc3] 25)).alloc (by simp only [World.size_alloc]; omega) (.cells #[.int .i64 1, .int .i64 1] 3))
  have zwo5 : w.heap.size ≤ wo5.heap.size := hb11.out.size
  clear hwo5 n1 n2 n3 n4
  refine (vec_c (some ⟨w.heap.size + 1 + 1 + 1, 0, none⟩) 2 [1, 1] (by simp) _ (L10.out.is (by omega)).1).mono ?_
  rintro e v1 ⟨vap, vcp, gap, gcp, rfl, hVp, hGp, hB⟩
  have z12 : wo5.heap.size ≤ v1.heap.size := hB.size
  have B13 : Hid (Abx v1 (w.heap.size) (.bool c1) (.slice sa1 sz1.length sc1) (.slice da1 dz1.length dc1)) := B7.out.go hB
  have B14 : Hid (Abx v1 (w.heap.size + 1) (.bool c2) (.slice sa2 sz2.length sc2) (.slice da2 dz2.length dc2)) := B8.out.go hB
  have B15 : Hid (Abx v1 (w.heap.size + 1 + 1) (.bool c3) (.slice sa3 sz3.length sc3) (.slice da3 dz3.length dc3)) := B9.out.go hB
  have L16 : Hid (MidC (w.heap.size + 1 + 1 + 1) (w.heap.size + 1 + 1 + 1 + 1) v1 (some ⟨w.heap.size + 1 + 1 + 1, 0, none⟩) ([1, 1]) (2)) := L10.out.go (by omega) hB
  have hb17 : Hid (Below w.heap.size w v1) := hb11.out.trans (hB.mono hb11.out.size)
  have L18 : Hid (MidC (wo5.heap.size) (v1.heap.size) v1 (vap) ([(2 : Int)]) (vcp)) := hVp.midc
  have L19 : Hid (MidC (wo5.heap.size) (v1.heap.size) v1 (gap) ([1, 1]) (gcp)) := hGp.midc
  clear hB hb11 B7 B8 B9 L10 hVp hGp
  clear L16
  have n20 := lit_mid v1 3 [4, 3] 2 rfl
  simp only [List.map_cons, List.map_nil] at n20
  go_wp2_with fail
  obtain ⟨wo21, hwo21⟩ : ∃ wo21, wo21 = (v1.alloc (.cells #[.int .i64 4, .int .i64 3] 3)) := ⟨_, rfl⟩
  rw [← hwo21]
  have z22 : v1.heap.size + 1 ≤ wo21.heap.size := by rw [hwo21]; simp only [World.size_alloc]; omega
  have B23 : Hid (Abx wo21 (w.heap.size) (.bool c1) (.slice sa1 sz1.length sc1) (.slice da1 dz1.length dc1)) := by rw [hwo21]; exact (B13.out.al (.cells #[.int .i64 4, .int .i64 3] 3))
  have B24 : Hid (Abx wo21 (w.heap.size + 1) (.bool c2) (.slice sa2 sz2.length sc2) (.slice da2 dz2.length dc2)) := by rw [hwo21]; exact (B14.out.al (.cells #[.int .i64 4, .int .i64 3] 3))
  have B25 : Hid (Abx wo21 (w.heap.size + 1 + 1) (.bool c3) (.slice sa3 sz3.length sc3) (.slice da3 dz3.length dc3)) := by rw [hwo21]; exact (B15.out.al (.cells #[.int .i64 4, .int .i64 3] 3))
  have L26 : Hid (MidC (wo5.heap.size) (v1.heap.size) wo21 (vap) ([(2 : Int)]) (vcp)) := by rw [hwo21]; exact (L18.out.al (by omega) (.cells #[.int .i64 4, .int .i64 3] 3))
  have L27 : Hid (MidC (wo5.heap.size) (v1.heap.size) wo21 (gap) ([1, 1]) (gcp)) := by rw [hwo21]; exact (L19.out.al (by omega) (.cells #[.int .i64 4, .int .i64 3] 3))
  have L28 : Hid (MidC (v1.heap.size) (v1.heap.size + 1) wo21 (some ⟨v1.heap.size, 0, none⟩) ([4, 3]) (2)) := by rw [hwo21]; exact n20
  have hb29 : Hid (Below w.heap.size w wo21) := by rw [hwo21]; exact (hb17.out.alloc (by omega) (.cells #[.int .i64 4, .int .i64 3] 3))
  have zwo21 : w.heap.size ≤ wo21.heap.size := hb29.out.size
  clear hwo21 n20 hb17 B13 B14 B15 L18 L19
  refine (vec_c (some ⟨v1.heap.size, 0, none⟩) 2 [4, 3] (by simp) _ (L28.out.is (by omega)).1).mono ?_
  rintro e v2 ⟨vaq, vcq, gaq, gcq, rfl, hVq, hGq, hB⟩
  have z30 : wo21.heap.size ≤ v2.heap.size := hB.size
  have B31 : Hid (Abx v2 (w.heap.size) (.bool c1) (.slice sa1 sz1.length sc1) (.slice da1 dz1.length dc1)) := B23.out.go hB
  have B32 : Hid (Abx v2 (w.heap.size + 1) (.bool c2) (.slice sa2 sz2.length sc2) (.slice da2 dz2.length dc2)) := B24.out.go hB
  have B33 : Hid (Abx v2 (w.heap.size + 1 + 1) (.bool c3) (.slice sa3 sz3.length sc3) (.slice da3 dz3.length dc3)) := B25.out.go hB
  have L34 : Hid (MidC (wo5.heap.size) (v1.heap.size) v2 (vap) ([(2 : Int)]) (vcp)) := L26.out.go (by omega) hB
  have L35 : Hid (MidC (wo5.heap.size) (v1.heap.size) v2 (gap) ([1, 1]) (gcp)) := L27.out.go (by omega) hB
  have L36 : Hid (MidC (v1.heap.size) (v1.heap.size + 1) v2 (some ⟨v1.heap.size, 0, none⟩) ([4, 3]) (2)) := L28.out.go (by omega) hB
  have hb37 : Hid (Below w.heap.size w v2) := hb29.out.trans (hB.mono hb29.out.size)
  have L38 : Hid (MidC (wo21.heap.size) (v2.heap.size) v2 (vaq) ([(2 : Int)]) (vcq)) := hVq.midc
  have L39 : Hid (MidC (wo21.heap.size) (v2.heap.size) v2 (gaq) ([4, 3]) (gcq)) := hGq.midc
  clear hB hb29 B23 B24 B25 L26 L27 L28 hVq hGq
  clear L36
  go_wp2_with fail
  refine (niw_ok 1 3 false vap vcp [(2 : Int)] 1 rfl gap gcp [1, 1] 2 rfl false vaq vcq [(2 : Int)] 1 rfl gaq gcq [4, 3] 2 rfl _ (by unfold In64; decide) (by unfold In64; decide) (by decide) (by decide) (L34.out.is (by omega)) (L35.out.is (by omega)).1 (lit12 (by decide)) (by decide) (by decide) (L38.out.is (by omega)) (L39.out.is (by omega)).1 (lit12 (by decide)) [] [7] HNi (by show inE 1 3 false [(2 : Int)] [1, 1] false [(2 : Int)] [4, 3] = 0 ∧ inS [(2 : Int)] [(2 : Int)] = [] ∧ inD 1 3 false [(2 : Int)] [1, 1] false [(2 : Int)] [4, 3] = [7]; decide +kernel)).mono ?_
  rintro e v3 ⟨f1, g1, f2, g2, rfl, hX0, hY0, hB⟩
  have z40 : v2.heap.size ≤ v3.heap.size := hB.size
  have B41 : Hid (Abx v3 (w.heap.size) (.bool c1) (.slice sa1 sz1.length sc1) (.slice da1 dz1.length dc1)) := B31.out.go hB
  have B42 : Hid (Abx v3 (w.heap.size + 1) (.bool c2) (.slice sa2 sz2.length sc2) (.slice da2 dz2.length dc2)) := B32.out.go hB
  have B43 : Hid (Abx v3 (w.heap.size + 1 + 1) (.bool c3) (.slice sa3 sz3.length sc3) (.slice da3 dz3.length dc3)) := B33.out.go hB
  have L44 : Hid (MidC (wo5.heap.size) (v1.heap.size) v3 (vap) ([(2 : Int)]) (vcp)) := L34.out.go (by omega) hB
  have L45 : Hid (MidC (wo5.heap.size) (v1.heap.size) v3 (gap) ([1, 1]) (gcp)) := L35.out.go (by omega) hB
  have L46 : Hid (MidC (wo21.heap.size) (v2.heap.size) v3 (vaq) ([(2 : Int)]) (vcq)) := L38.out.go (by omega) hB
  have L47 : Hid (MidC (wo21.heap.size) (v2.heap.size) v3 (gaq) ([4, 3]) (gcq)) := L39.out.go (by omega) hB
  have hb48 : Hid (Below w.heap.size w v3) := hb37.out.trans (hB.mono hb37.out.size)
  have L49 : Hid (MidC (v2.heap.size) (v3.heap.size) v3 (f1) ([]) (g1)) := hX0.midc
  have L50 : Hid (MidC (v2.heap.size) (v3.heap.size) v3 (f2) ([7]) (g2)) := hY0.midc
  clear hB hb37 B31 B32 B33 L34 L35 L38 L39 hX0 hY0
  clear L44 L45 L46 L47
  obtain ⟨b51, ob51, rfl, _, _, _, _⟩ := L50.out.at (i := 0) (by decide)
  have n52 := Abx.new v3 (.bool false) (.slice f1 0 g1) (.slice (some ⟨b51, ob51, none⟩) 1 g2)
  have l53 := (n52).c0
  have l54 := (n52).c1
  have l55 := (n52).c2
  obtain ⟨_, _, l56e, _, _, l56, _⟩ := ((L50.out.al (by omega) (.cells #[.bool false, .slice f1 0 g1, .slice (some ⟨b51, ob51, none⟩) 1 g2] 25))).at (i := 0) (by decide)
  cases l56e
  try simp only [Nat.add_zero] at l56
  have l57 := ((B42.out.al (.cells #[.bool false, .slice f1 0 g1, .slice (some ⟨b51, ob51, none⟩) 1 g2] 25))).c0
  have l58 := ((B42.out.al (.cells #[.bool false, .slice f1 0 g1, .slice (some ⟨b51, ob51, none⟩) 1 g2] 25))).c1
  have l59 := ((B42.out.al (.cells #[.bool false, .slice f1 0 g1, .slice (some ⟨b51, ob51, none⟩) 1 g2] 25))).c2
  have l60 := ((B43.out.al (.cells #[.bool false, .slice f1 0 g1, .slice (some ⟨b51, ob51, none⟩) 1 g2] 25))).c0
  have l61 := ((B43.out.al (.cells #[.bool false, .slice f1 0 g1, .slice (some ⟨b51, ob51, none⟩) 1 g2] 25))).c1
  have l62 := ((B43.out.al (.cells #[.bool false, .slice f1 0 g1, .slice (some ⟨b51, ob51, none⟩) 1 g2] 25))).c2
  go_wp2_with fail
  obtain ⟨wo63, hwo63⟩ : ∃ wo63, wo63 = (v3.alloc (.cells #[.bool false, .slice f1 0 g1, .slice (some ⟨b51, ob51, none⟩) 1 g2] 25)) := ⟨_, rfl⟩
  rw [← hwo63]
  have z64 : v3.heap.size + 1 ≤ wo63.heap.size := by rw [hwo63]; simp only [World.size_alloc]; omega
  have B65 : Hid (Abx wo63 (w.heap.size) (.bool c1) (.slice sa1 sz1.length sc1) (.slice da1 dz1.length dc1)) := by rw [hwo63]; exact (B41.out.al (.cells #[.bool false, .slice f1 0 g1, .slice (some ⟨b51, ob51, none⟩) 1 g2] 25))
  have B66 : Hid (Abx wo63 (w.heap.size + 1) (.bool c2) (.slice sa2 sz2.length sc2) (.slice da2 dz2.length dc2)) := by rw [hwo63]; exact (B42.out.al (.cells #[.bool false, .slice f1 0 g1, .slice (some ⟨b51, ob51, none⟩) 1 g2] 25))
  have B67 : Hid (Abx wo63 (w.heap.size + 1 + 1) (.bool c3) (.slice sa3 sz3.length sc3) (.slice da3 dz3.length dc3)) := by rw [hwo63]; exact (B43.out.al (.cells #[.bool false, .slice f1 0 g1, .slice (some ⟨b51, ob51, none⟩) 1 g2] 25))
  have B68 : Hid (Abx wo63 (v3.heap.size) (.bool false) (.slice f1 0 g1) (.slice (some ⟨b51, ob51, none⟩) 1 g2)) := by rw [hwo63]; exact n52
  have L69 : Hid (MidC (v2.heap.size) (v3.heap.size) wo63 (f1) ([]) (g1)) := by rw [hwo63]; exact (L49.out.al (by omega) (.cells #[.bool false, .slice f1 0 g1, .slice (some ⟨b51, ob51, none⟩) 1 g2] 25))
  have L70 : Hid (MidC (v2.heap.size) (v3.heap.size) wo63 (some ⟨b51, ob51, none⟩) ([7]) (g2)) := by rw [hwo63]; exact (L50.out.al (by omega) (.cells #[.bool false, .slice f1 0 g1, .slice (some ⟨b51, ob51, none⟩) 1 g2] 25))
  have hb71 : Hid (Below w.heap.size w wo63) := by rw [hwo63]; exact (hb48.out.alloc (by omega) (.cells #[.bool false, .slice f1 0 g1, .slice (some ⟨b51, ob51, none⟩) 1 g2] 25))
  have zwo63 : w.heap.size ≤ wo63.heap.size := hb71.out.size
  clear hwo63 n52 l53 l54 l55 l56 l57 l58 l59 l60 l61 l62 hb48 B41 B42 B43 L49 L50
  clear L69 L70 B68
  refine (ints_any sa2 sc2 sz2 sa3 sc3 sz3 x21 _ _ ((HI2.out.1.1.below hb71.out).mono hb71.out.size) ((HI3.out.1.1.below hb71.out).mono hb71.out.size)).mono ?_
  rintro e v4 ⟨rfl, hB⟩
  have z72 : wo63.heap.size ≤ v4.heap.size := hB.size
  have B73 : Hid (Abx v4 (w.heap.size) (.bool c1) (.slice sa1 sz1.length sc1) (.slice da1 dz1.length dc1)) := B65.out.go hB
  have B74 : Hid (Abx v4 (w.heap.size + 1) (.bool c2) (.slice sa2 sz2.length sc2) (.slice da2 dz2.length dc2)) := B66.out.go hB
  have B75 : Hid (Abx v4 (w.heap.size + 1 + 1) (.bool c3) (.slice sa3 sz3.length sc3) (.slice da3 dz3.length dc3)) := B67.out.go hB
  have hb76 : Hid (Below w.heap.size w v4) := hb71.out.trans (hB.mono hb71.out.size)
  clear hB hb71 B65 B66 B67
  generalize eqB sz2 sz3 = qq
  have l77 := (B73.out).c0
  have l78 := (B73.out).c1
  have l79 := (B73.out).c2
  go_wp2_with fail
  clear l77 l78 l79
  refine (grid_no 16 (by decide) c1 sa1 sc1 sz1 da1 dc1 dz1 _ ((HI1.out.1.1.below hb76.out).mono hb76.out.size) G1.out).mono ?_
  rintro e v5 ⟨rfl, hB⟩
  have z80 : v4.heap.size ≤ v5.heap.size := hB.size
  have B81 : Hid (Abx v5 (w.heap.size) (.bool c1) (.slice sa1 sz1.length sc1) (.slice da1 dz1.length dc1)) := B73.out.go hB
  have B82 : Hid (Abx v5 (w.heap.size + 1) (.bool c2) (.slice sa2 sz2.length sc2) (.slice da2 dz2.length dc2)) := B74.out.go hB
  have B83 : Hid (Abx v5 (w.heap.size + 1 + 1) (.bool c3) (.slice sa3 sz3.length sc3) (.slice da3 dz3.length dc3)) := B75.out.go hB
  have hb84 : Hid (Below w.heap.size w v5) := hb76.out.trans (hB.mono hb76.out.size)
  clear hB hb76 B73 B74 B75
  go_wp2_with fail
  go_ret
  exact ⟨rfl, hb84.out⟩
set_option maxRecDepth 100000 in
set_option maxHeartbeats 4000000 in
theorem sums_g2 (HNi : CNi) (H2 : C2d) (c1 : Bool) (sa1 : Option Addr) (sc1 : Nat) (sz1 : List Int) (da1 : Option Addr) (dc1 : Nat) (dz1 : List Int) (c2 : Bool) (sa2 : Option Addr) (sc2 : Nat) (sz2 : List Int) (da2 : Option Addr) (dc2 : Nat) (dz2 : List Int) (c3 : Bool) (sa3 : Option Addr) (sc3 : Nat) (sz3 : List Int) (da3 : Option Addr) (dc3 : Nat) (dz3 : List Int) (w : World) (w8 : IsArrD w sa1 sz1 sc1 da1 dz1 dc1) (w9 : IsArrD w sa2 sz2 sc2 da2 dz2 dc2) (w10 : IsArrD w sa3 sz3 sc3 da3 dz3 dc3) (G1 : Hid (GrdP 16 c1 sz1 dz1)) (G2 : Hid (¬ GrdP 16 c2 sz2 dz2)) :
    Calls Try.prog 5 #[.agg #[.bool c1, .slice sa1 sz1.length sc1, .slice da1 dz1.length dc1], .agg #[.bool c2, .slice sa2 sz2.length sc2, .slice da2 dz2.length dc2], .agg #[.bool c3, .slice sa3 sz3.length sc3, .slice da3 dz3.length dc3]] w fun e w' => e = .returned (.bool true) ∧ Below w.heap.size w w' := by
  obtain ⟨x11, x12, x3, x4, s64, T⟩ := w8
  have HI1 : Hid (IsC w.heap.size w sa1 sz1 sc1 ∧ IsC w.heap.size w da1 dz1 dc1 ∧ (∀ j, In64 (nth sz1 j)) ∧ ∀ j, In64 (nth dz1 j)) := ⟨x3, x4, s64, T⟩
  clear x3 x4 T s64
  obtain ⟨x21, x22, x3, x4, s64, T⟩ := w9
  have HI2 : Hid (IsC w.heap.size w sa2 sz2 sc2 ∧ IsC w.heap.size w da2 dz2 dc2 ∧ (∀ j, In64 (nth sz2 j)) ∧ ∀ j, In64 (nth dz2 j)) := ⟨x3, x4, s64, T⟩
  clear x3 x4 T s64
  obtain ⟨x31, x32, x3, x4, s64, T⟩ := w10
  have HI3 : Hid (IsC w.heap.size w sa3 sz3 sc3 ∧ IsC w.heap.size w da3 dz3 dc3 ∧ (∀ j, In64 (nth sz3 j)) ∧ ∀ j, In64 (nth dz3 j)) := ⟨x3, x4, s64, T⟩
  clear x3 x4 T s64
  have hdum : True := trivial
  have n1 := Abx.new w (.bool c1) (.slice sa1 sz1.length sc1) (.slice da1 dz1.length dc1)
  have n2 := Abx.new (w.alloc (.cells #[.bool c1, .slice sa1 sz1.length sc1, .slice da1 dz1.length dc1] 25)) (.bool c2) (.slice sa2 sz2.length sc2) (.slice da2 dz2.length dc2)
  simp only [World.size_alloc] at n2
  have n3 := Abx.new ((w.alloc (.cells #[.bool c1, .slice sa1 sz1.length sc1, .slice da1 dz1.length dc1] 25)).alloc (.cells #[.bool c2, .slice sa2 sz2.length sc2, .slice da2 dz2.length dc2] 25)) (.bool c3) (.slice sa3 sz3.length sc3) (.slice da3 dz3.length dc3)
  simp only [World.size_alloc] at n3
  have n4 := lit_mid (((w.alloc (.cells #[.bool c1, .slice sa1 sz1.length sc1, .slice da1 dz1.length dc1] 25)).alloc (.cells #[.bool c2, .slice sa2 sz2.length sc2, .slice da2 dz2.length dc2] 25)).alloc (.cells #[.bool c3, .slice sa3 sz3.length sc3, .slice da3 dz3.length dc3] 25)) 3 [1, 1] 2 rfl
  simp only [World.size_alloc, List.map_cons, List.map_nil] at n4
  go_enter Try.func5, Try.ntmps5
  go_wp2_with fail
  obtain ⟨wo5, hwo5⟩ : ∃ wo5, wo5 = ((((w.alloc (.cells #[.bool c1, .slice sa1 sz1.length sc1, .slice da1 dz1.length dc1] 25)).alloc (.cells #[.bool c2, .slice sa2 sz2.length sc2, .slice da2 dz2.length dc2] 25)).alloc (.cells #[.bool c3, .slice sa3 sz3.length sc3, .slice da3 dz3.length dc3] 25)).alloc (.cells #[.int .i64 1, .int .i64 1] 3)) := ⟨_, rfl⟩
  rw [← hwo5]
  have z6 : w.heap.size + 1 + 1 + 1 + 1 ≤ wo5.heap.size := by rw [hwo5]; simp only [World.size_alloc]; omega
  have B7 : Hid (Abx wo5 (w.heap.size) (.bool c1) (.slice sa1 sz1.length sc1) (.slice da1 dz1.length dc1)) := by rw [hwo5]; exact (((n1.al (.cells #[.bool c2, .slice sa2 sz2.length sc2, .slice da2 dz2.length dc2] 25)).al (.cells #[.bool c3, .slice sa3 sz3.length sc3, .slice da3 dz3.length dc3] 25)).al (.cells #[.int .i64 1, .int .i64 1] 3))
  have B8 : Hid (Abx wo5 (w.heap.size + 1) (.bool c2) (.slice sa2 sz2.length sc2) (.slice da2 dz2.length dc2)) := by rw [hwo5]; exact ((n2.al (.cells #[.bool c3, .slice sa3 sz3.length sc3, .slice da3 dz3.length dc3] 25)).al (.cells #[.int .i64 1, .int .i64 1] 3))
  have B9 : Hid (Abx wo5 (w.heap.size + 1 + 1) (.bool c3) (.slice sa3 sz3.length sc3) (.slice da3 dz3.length dc3)) := by rw [hwo5]; exact (n3.al (.cells #[.int .i64 1, .int .i64 1] 3))
  have L10 : Hid (MidC (w.heap.size + 1 + 1 + 1) (w.heap.size + 1 + 1 + 1 + 1) wo5 (some ⟨w.heap.size + 1 + 1 + 1, 0, none⟩) ([1, 1]) (2)) := by rw [hwo5]; exact n4
  have hb11 : Hid (Below w.heap.size w wo5) := by rw [hwo5]; exact (((((Below.refl w.heap.size w).alloc (by omega) (.cells #[.bool c1, .slice sa1 sz1.length sc1, .slice da1 dz1.length dc1] 25)).alloc (by simp only [World.size_alloc]; omega) (.cells #[.bool c2, .slice sa2 sz2.length sc2, .slice da2 dz2.length dc2] 25)).alloc (by simp only [World.size_alloc]; omega) (.cells #[.bool c3, .slice sa3 sz3.length sc3, .slice da3 dz3.length dc3] 25)).alloc (by simp only [World.size_alloc]; omega) (.cells #[.int .i64 1, .int .i64 1] 3))
  have zwo5 : w.heap.size ≤ wo5.heap.size := hb11.out.size
  clear hwo5 n1 n2 n3 n4
  refine (vec_c (some ⟨w.heap.size + 1 + 1 + 1, 0, none⟩) 2 [1, 1] (by simp) _ (L10.out.is (by omega)).1).mono ?_
  rintro e v1 ⟨vap, vcp, gap, gcp, rfl, hVp, hGp, hB⟩
  have z12 : wo5.heap.size ≤ v1.heap.size := hB.size
  have B13 : Hid (Abx v1 (w.heap.size) (.bool c1) (.slice sa1 sz1.length sc1) (.slice da1 dz1.length dc1)) := B7.out.go hB
  have B14 : Hid (Abx v1 (w.heap.size + 1) (.bool c2) (.slice sa2 sz2.length sc2) (.slice da2 dz2.length dc2)) := B8.out.go hB
  have B15 : Hid (Abx v1 (w.heap.size + 1 + 1) (.bool c3) (.slice sa3 sz3.length sc3) (.slice da3 dz3.length dc3)) := B9.out.go hB
  have L16 : Hid (MidC (w.heap.size + 1 + 1 + 1) (w.heap.size + 1 + 1 + 1 + 1) v1 (some ⟨w.heap.size + 1 + 1 + 1, 0, none⟩) ([1, 1]) (2)) := L10.out.go (by omega) hB
  have hb17 : Hid (Below w.heap.size w v1) := hb11.out.trans (hB.mono hb11.out.size)
  have L18 : Hid (MidC (wo5.heap.size) (v1.heap.size) v1 (vap) ([(2 : Int)]) (vcp)) := hVp.midc
  have L19 : Hid (MidC (wo5.heap.size) (v1.heap.size) v1 (gap) ([1, 1]) (gcp)) := hGp.midc
  clear hB hb11 B7 B8 B9 L10 hVp hGp
  clear L16
  have n20 := lit_mid v1 3 [4, 3] 2 rfl
  simp only [List.map_cons, List.map_nil] at n20
  go_wp2_with fail
  obtain ⟨wo21, hwo21⟩ : ∃ wo21, wo21 = (v1.alloc (.cells #[.int .i64 4, .int .i64 3] 3)) := ⟨_, rfl⟩
  rw [← hwo21]
  have z22 : v1.heap.size + 1 ≤ wo21.heap.size := by rw [hwo21]; simp only [World.size_alloc]; omega
  have B23 : Hid (Abx wo21 (w.heap.size) (.bool c1) (.slice sa1 sz1.length sc1) (.slice da1 dz1.length dc1)) := by rw [hwo21]; exact (B13.out.al (.cells #[.int .i64 4, .int .i64 3] 3))
  have B24 : Hid (Abx wo21 (w.heap.size + 1) (.bool c2) (.slice sa2 sz2.length sc2) (.slice da2 dz2.length dc2)) := by rw [hwo21]; exact (B14.out.al (.cells #[.int .i64 4, .int .i64 3] 3))
  have B25 : Hid (Abx wo21 (w.heap.size + 1 + 1) (.bool c3) (.slice sa3 sz3.length sc3) (.slice da3 dz3.length dc3)) := by rw [hwo21]; exact (B15.out.al (.cells #[.int .i64 4, .int .i64 3] 3))
  have L26 : Hid (MidC (wo5.heap.size) (v1.heap.size) wo21 (vap) ([(2 : Int)]) (vcp)) := by rw [hwo21]; exact (L18.out.al (by omega) (.cells #[.int .i64 4, .int .i64 3] 3))
  have L27 : Hid (MidC (wo5.heap.size) (v1.heap.size) wo21 (gap) ([1, 1]) (gcp)) := by rw [hwo21]; exact (L19.out.al (by omega) (.cells #[.int .i64 4, .int .i64 3] 3))
  have L28 : Hid (MidC (v1.heap.size) (v1.heap.size + 1) wo21 (some ⟨v1.heap.size, 0, none⟩) ([4, 3]) (2)) := by rw [hwo21]; exact n20
  have hb29 : Hid (Below w.heap.size w wo21) := by rw [hwo21]; exact (hb17.out.alloc (by omega) (.cells #[.int .i64 4, .int .i64 3] 3))
  have zwo21 : w.heap.size ≤ wo21.heap.size := hb29.out.size
  clear hwo21 n20 hb17 B13 B14 B15 L18 L19
  refine (vec_c (some ⟨v1.heap.size, 0, none⟩) 2 [4, 3] (by simp) _ (L28.out.is (by omega)).1).mono ?_
  rintro e v2 ⟨vaq, vcq, gaq, gcq, rfl, hVq, hGq, hB⟩
  have z30 : wo21.heap.size ≤ v2.heap.size := hB.size
  have B31 : Hid (Abx v2 (w.heap.size) (.bool c1) (.slice sa1 sz1.length sc1) (.slice da1 dz1.length dc1)) := B23.out.go hB
  have B32 : Hid (Abx v2 (w.heap.size + 1) (.bool c2) (.slice sa2 sz2.length sc2) (.slice da2 dz2.length dc2)) := B24.out.go hB
  have B33 : Hid (Abx v2 (w.heap.size + 1 + 1) (.bool c3) (.slice sa3 sz3.length sc3) (.slice da3 dz3.length dc3)) := B25.out.go hB
  have L34 : Hid (MidC (wo5.heap.size) (v1.heap.size) v2 (vap) ([(2 : Int)]) (vcp)) := L26.out.go (by omega) hB
  have L35 : Hid (MidC (wo5.heap.size) (v1.heap.size) v2 (gap) ([1, 1]) (gcp)) := L27.out.go (by omega) hB
  have L36 : Hid (MidC (v1.heap.size) (v1.heap.size + 1) v2 (some ⟨v1.heap.size, 0, none⟩) ([4, 3]) (2)) := L28.out.go (by omega) hB
  have hb37 : Hid (Below w.heap.size w v2) := hb29.out.trans (hB.mono hb29.out.size)
  have L38 : Hid (MidC (wo21.heap.size) (v2.heap.size) v2 (vaq) ([(2 : Int)]) (vcq)) := hVq.midc
  have L39 : Hid (MidC (wo21.heap.size) (v2.heap.size) v2 (gaq) ([4, 3]) (gcq)) := hGq.midc
  clear hB hb29 B23 B24 B25 L26 L27 L28 hVq hGq
  clear L36
  go_wp2_with fail
  refine (niw_ok 1 3 false vap vcp [(2 : Int)] 1 rfl gap gcp [1, 1] 2 rfl false vaq vcq [(2 : Int)] 1 rfl gaq gcq [4, 3] 2 rfl _ (by unfold In64; decide) (by unfold In64; decide) (by decide) (by decide) (L34.out.is (by omega)) (L35.out.is (by omega)).1 (lit12 (by decide)) (by decide) (by decide) (L38.out.is (by omega)) (L39.out.is (by omega)).1 (lit12 (by decide)) [] [7] HNi (by show inE 1 3 false [(2 : Int)] [1, 1] false [(2 : Int)] [4, 3] = 0 ∧ inS [(2 : Int)] [(2 : Int)] = [] ∧ inD 1 3 false [(2 : Int)] [1, 1] false [(2 : Int)] [4, 3] = [7]; decide +kernel)).mono ?_
  rintro e v3 ⟨f1, g1, f2, g2, rfl, hX0, hY0, hB⟩
  have z40 : v2.heap.size ≤ v3.heap.size := hB.size
  have B41 : Hid (Abx v3 (w.heap.size) (.bool c1) (.slice sa1 sz1.length sc1) (.slice da1 dz1.length dc1)) := B31.out.go hB
  have B42 : Hid (Abx v3 (w.heap.size + 1) (.bool c2) (.slice sa2 sz2.length sc2) (.slice da2 dz2.length dc2)) := B32.out.go hB
  have B43 : Hid (Abx v3 (w.heap.size + 1 + 1) (.bool c3) (.slice sa3 sz3.length sc3) (.slice da3 dz3.length dc3)) := B33.out.go hB
  have L44 : Hid (MidC (wo5.heap.size) (v1.heap.size) v3 (vap) ([(2 : Int)]) (vcp)) := L34.out.go (by omega) hB
  have L45 : Hid (MidC (wo5.heap.size) (v1.heap.size) v3 (gap) ([1, 1]) (gcp)) := L35.out.go (by omega) hB
  have L46 : Hid (MidC (wo21.heap.size) (v2.heap.size) v3 (vaq) ([(2 : Int)]) (vcq)) := L38.out.go (by omega) hB
  have L47 : Hid (MidC (wo21.heap.size) (v2.heap.size) v3 (gaq) ([4, 3]) (gcq)) := L39.out.go (by omega) hB
  have hb48 : Hid (Below w.heap.size w v3) := hb37.out.trans (hB.mono hb37.out.size)
  have L49 : Hid (MidC (v2.heap.size) (v3.heap.size) v3 (f1) ([]) (g1)) := hX0.midc
  have L50 : Hid (MidC (v2.heap.size) (v3.heap.size) v3 (f2) ([7]) (g2)) := hY0.midc
  clear hB hb37 B31 B32 B33 L34 L35 L38 L39 hX0 hY0
  clear L44 L45 L46 L47
  obtain ⟨b51, ob51, rfl, _, _, _, _⟩ := L50.out.at (i := 0) (by decide)
  have n52 := Abx.new v3 (.bool false) (.slice f1 0 g1) (.slice (some ⟨b51, ob51, none⟩) 1 g2)
  have l53 := (n52).c0
  have l54 := (n52).c1
  have l55 := (n52).c2
  obtain ⟨_, _, l56e, _, _, l56, _⟩ := ((L50.out.al (by omega) (.cells #[.bool false, .slice f1 0 g1, .slice (some ⟨b51, ob51, none⟩) 1 g2] 25))).at (i := 0) (by decide)
  cases l56e
  try simp only [Nat.add_zero] at l56
  have l57 := ((B42.out.al (.cells #[.bool false, .slice f1 0 g1, .slice (some ⟨b51, ob51, none⟩) 1 g2] 25))).c0
  have l58 := ((B42.out.al (.cells #[.bool false, .slice f1 0 g1, .slice (some ⟨b51, ob51, none⟩) 1 g2] 25))).c1
  have l59 := ((B42.out.al (.cells #[.bool false, .slice f1 0 g1, .slice (some ⟨b51, ob51, none⟩) 1 g2] 25))).c2
  have l60 := ((B43.out.al (.cells #[.bool false, .slice f1 0 g1, .slice (some ⟨b51, ob51, none⟩) 1 g2] 25))).c0
  have l61 := ((B43.out.al (.cells #[.bool false, .slice f1 0 g1, .slice (some ⟨b51, ob51, none⟩) 1 g2] 25))).c1
  have l62 := ((B43.out.al (.cells #[.bool false, .slice f1 0 g1, .slice (some ⟨b51, ob51, none⟩) 1 g2] 25))).c2
  go_wp2_with fail
  obtain ⟨wo63, hwo63⟩ : ∃ wo63, wo63 = (v3.alloc (.cells #[.bool false, .slice f1 0 g1, .slice (some ⟨b51, ob51, none⟩) 1 g2] 25)) := ⟨_, rfl⟩
  rw [← hwo63]
  have z64 : v3.heap.size + 1 ≤ wo63.heap.size := by rw [hwo63]; simp only [World.size_alloc]; omega
  have B65 : Hid (Abx wo63 (w.heap.size) (.bool c1) (.slice sa1 sz1.length sc1) (.slice da1 dz1.length dc1)) := by rw [hwo63]; exact (B41.out.al (.cells #[.bool false, .slice f1 0 g1, .slice (some ⟨b51, ob51, none⟩) 1 g2] 25))
  have B66 : Hid (Abx wo63 (w.heap.size + 1) (.bool c2) (.slice sa2 sz2.length sc2) (.slice da2 dz2.length dc2)) := by rw [hwo63]; exact (B42.out.al (.cells #[.bool false, .slice f1 0 g1, .slice (some ⟨b51, ob51, none⟩) 1 g2] 25))
  have B67 : Hid (Abx wo63 (w.heap.size + 1 + 1) (.bool c3) (.slice sa3 sz3.length sc3) (.slice da3 dz3.length dc3)) := by rw [hwo63]; exact (B43.out.al (.cells #[.bool false, .slice f1 0 g1, .slice (some ⟨b51, ob51, none⟩) 1 g2] 25))
  have B68 : Hid (Abx wo63 (v3.heap.size) (.bool false) (.slice f1 0 g1) (.slice (some ⟨b51, ob51, none⟩) 1 g2)) := by rw [hwo63]; exact n52
  have L69 : Hid (MidC (v2.heap.size) (v3.heap.size) wo63 (f1) ([]) (g1)) := by rw [hwo63]; exact (L49.out.al (by omega) (.cells #[.bool false, .slice f1 0 g1, .slice (some ⟨b51, ob51, none⟩) 1 g2] 25))
  have L70 : Hid (MidC (v2.heap.size) (v3.heap.size) wo63 (some ⟨b51, ob51, none⟩) ([7]) (g2)) := by rw [hwo63]; exact (L50.out.al (by omega) (.cells #[.bool false, .slice f1 0 g1, .slice (some ⟨b51, ob51, none⟩) 1 g2] 25))
  have hb71 : Hid (Below w.heap.size w wo63) := by rw [hwo63]; exact (hb48.out.alloc (by omega) (.cells #[.bool false, .slice f1 0 g1, .slice (some ⟨b51, ob51, none⟩) 1 g2] 25))
  have zwo63 : w.heap.size ≤ wo63.heap.size := hb71.out.size
  clear hwo63 n52 l53 l54 l55 l56 l57 l58 l59 l60 l61 l62 hb48 B41 B42 B43 L49 L50
  clear L69 L70 B68
  refine (ints_any sa2 sc2 sz2 sa3 sc3 sz3 x21 _ _ ((HI2.out.1.1.below hb71.out).mono hb71.out.size) ((HI3.out.1.1.below hb71.out).mono hb71.out.size)).mono ?_
  rintro e v4 ⟨rfl, hB⟩
  have z72 : wo63.heap.size ≤ v4.heap.size := hB.size
  have B73 : Hid (Abx v4 (w.heap.size) (.bool c1) (.slice sa1 sz1.length sc1) (.slice da1 dz1.length dc1)) := B65.out.go hB
  have B74 : Hid (Abx v4 (w.heap.size + 1) (.bool c2) (.slice sa2 sz2.length sc2) (.slice da2 dz2.length dc2)) := B66.out.go hB
  have B75 : Hid (Abx v4 (w.heap.size + 1 + 1) (.bool c3) (.slice sa3 sz3.length sc3) (.slice da3 dz3.length dc3)) := B67.out.go hB
  have hb76 : Hid (Below w.heap.size w v4) := hb71.out.trans (hB.mono hb71.out.size)
  clear hB hb71 B65 B66 B67
  generalize eqB sz2 sz3 = qq
  have l77 := (B73.out).c0
  have l78 := (B73.out).c1
  have l79 := (B73.out).c2
  go_wp2_with fail
  clear l77 l78 l79
  refine (grid_yes 16 (by decide) c1 sa1 sc1 sz1 da1 dc1 dz1 _ ((HI1.out.1.1.below hb76.out).mono hb76.out.size) G1.out).mono ?_
  rintro e v5 ⟨rfl, hB⟩
  have z80 : v4.heap.size ≤ v5.heap.size := hB.size
  have B81 : Hid (Abx v5 (w.heap.size) (.bool c1) (.slice sa1 sz1.length sc1) (.slice da1 dz1.length dc1)) := B73.out.go hB
  have B82 : Hid (Abx v5 (w.heap.size + 1) (.bool c2) (.slice sa2 sz2.length sc2) (.slice da2 dz2.length dc2)) := B74.out.go hB
  have B83 : Hid (Abx v5 (w.heap.size + 1 + 1) (.bool c3) (.slice sa3 sz3.length sc3) (.slice da3 dz3.length dc3)) := B75.out.go hB
  have hb84 : Hid (Below w.heap.size w v5) := hb76.out.trans (hB.mono hb76.out.size)
  clear hB hb76 B73 B74 B75
  have l85 := (B82.out).c0
  have l86 := (B82.out).c1
  have l87 := (B82.out).c2
  go_wp2_with fail
  clear l85 l86 l87
  refine (grid_no 16 (by decide) c2 sa2 sc2 sz2 da2 dc2 dz2 _ ((HI2.out.1.1.below hb84.out).mono hb84.out.size) G2.out).mono ?_
  rintro e v6 ⟨rfl, hB⟩
  have z88 : v5.heap.size ≤ v6.heap.size := hB.size
  have B89 : Hid (Abx v6 (w.heap.size) (.bool c1) (.slice sa1 sz1.length sc1) (.slice da1 dz1.length dc1)) := B81.out.go hB
  have B90 : Hid (Abx v6 (w.heap.size + 1) (.bool c2) (.slice sa2 sz2.length sc2) (.slice da2 dz2.length dc2)) := B82.out.go hB
  have B91 : Hid (Abx v6 (w.heap.size + 1 + 1) (.bool c3) (.slice sa3 sz3.length sc3) (.slice da3 dz3.length dc3)) := B83.out.go hB
  have hb92 : Hid (Below w.heap.size w v6) := hb84.out.trans (hB.mono hb84.out.size)
  clear hB hb84 B81 B82 B83
  go_wp2_with fail
  go_ret
  exact ⟨rfl, hb92.out⟩
set_option maxRecDepth 100000 in
set_option maxHeartbeats 4000000 in
theorem sums_g3 (HNi : CNi) (H2 : C2d) (c1 : Bool) (sa1 : Option Addr) (sc1 : Nat) (sz1 : List Int) (da1 : Option Addr) (dc1 : Nat) (dz1 : List Int) (c2 : Bool) (sa2 : Option Addr) (sc2 : Nat) (sz2 : List Int) (da2 : Option Addr) (dc2 : Nat) (dz2 : List Int) (c3 : Bool) (sa3 : Option Addr) (sc3 : Nat) (sz3 : List Int) (da3 : Option Addr) (dc3 : Nat) (dz3 : List Int) (w : World) (w8 : IsArrD w sa1 sz1 sc1 da1 dz1 dc1) (w9 : IsArrD w sa2 sz2 sc2 da2 dz2 dc2) (w10 : IsArrD w sa3 sz3 sc3 da3 dz3 dc3) (G1 : Hid (GrdP 16 c1 sz1 dz1)) (G2 : Hid (GrdP 16 c2 sz2 dz2)) (G3 : Hid (¬ GrdP 16 c3 sz3 dz3)) :
    Calls Try.prog 5 #[.agg #[.bool c1, .slice sa1 sz1.length sc1, .slice da1 dz1.length dc1], .agg #[.bool c2, .slice sa2 sz2.length sc2, .slice da2 dz2.length dc2], .agg #[.bool c3, .slice sa3 sz3.length sc3, .slice da3 dz3.length dc3]] w fun e w' => e = .returned (.bool true) ∧ Below w.heap.size w w' := by
  obtain ⟨x11, x12, x3, x4, s64, T⟩ := w8
  have HI1 : Hid (IsC w.heap.size w sa1 sz1 sc1 ∧ IsC w.heap.size w da1 dz1 dc1 ∧ (∀ j, In64 (nth sz1 j)) ∧ ∀ j, In64 (nth dz1 j)) := ⟨x3, x4, s64, T⟩
  clear x3 x4 T s64
  obtain ⟨x21, x22, x3, x4, s64, T⟩ := w9
  have HI2 : Hid (IsC w.heap.size w sa2 sz2 sc2 ∧ IsC w.heap.size w da2 dz2 dc2 ∧ (∀ j, In64 (nth sz2 j)) ∧ ∀ j, In64 (nth dz2 j)) := ⟨x3, x4, s64, T⟩
  clear x3 x4 T s64
  obtain ⟨x31, x32, x3, x4, s64, T⟩ := w10
  have HI3 : Hid (IsC w.heap.size w sa3 sz3 sc3 ∧ IsC w.heap.size w da3 dz3 dc3 ∧ (∀ j, In64 (nth sz3 j)) ∧ ∀ j, In64 (nth dz3 j)) := ⟨x3, x4, s64, T⟩
  clear x3 x4 T s64
  have hdum : True := trivial
  have n1 := Abx.new w (.bool c1) (.slice sa1 sz1.length sc1) (.slice da1 dz1.length dc1)
  have n2 := Abx.new (w.alloc (.cells #[.bool c1, .slice sa1 sz1.length sc1, .slice da1 dz1.length dc1] 25)) (.bool c2) (.slice sa2 sz2.length sc2) (.slice da2 dz2.length dc2)
  simp only [World.size_alloc] at n2
  have n3 := Abx.new ((w.alloc (.cells #[.bool c1, .slice sa1 sz1.length sc1, .slice da1 dz1.length dc1] 25)).alloc (.cells #[.bool c2, .slice sa2 sz2.length sc2, .slice da2 dz2.length dc2] 25)) (.bool c3) (.slice sa3 sz3.length sc3) (.slice da3 dz3.length dc3)
  simp only [World.size_alloc] at n3
  have n4 := lit_mid (((w.alloc (.cells #[.bool c1, .slice sa1 sz1.length sc1, .slice da1 dz1.length dc1] 25)).alloc (.cells #[.bool c2, .slice sa2 sz2.length sc2, .slice da2 dz2.length dc2] 25)).alloc (.cells #[.bool c3, .slice sa3 sz3.length sc3, .slice da3 dz3.length dc3] 25)) 3 [1, 1] 2 rfl
  simp only [World.size_alloc, List.map_cons, List.map_nil] at n4
  go_enter Try.func5, Try.ntmps5
  go_wp2_with fail
  obtain ⟨wo5, hwo5⟩ : ∃ wo5, wo5 = ((((w.alloc (.cells #[.bool c1, .slice sa1 sz1.length sc1, .slice da1 dz1.length dc1] 25)).alloc (.cells #[.bool c2, .slice sa2 sz2.length sc2, .slice da2 dz2.length dc2] 25)).alloc (.cells #[.bool c3, .slice sa3 sz3.length sc3, .slice da3 dz3.length dc3] 25)).alloc (.cells #[.int .i64 1, .int .i64 1] 3)) := ⟨_, rfl⟩
  rw [← hwo5]
  have z6 : w.heap.size + 1 + 1 + 1 + 1 ≤ wo5.heap.size := by rw [hwo5]; simp only [World.size_alloc]; omega
  have B7 : Hid (Abx wo5 (w.heap.size) (.bool c1) (.slice sa1 sz1.length sc1) (.slice da1 dz1.length dc1)) := by rw [hwo5]; exact (((n1.al (.cells #[.bool c2, .slice sa2 sz2.length sc2, .slice da2 dz2.length dc2] 25)).al (.cells #[.bool c3, .slice sa3 sz3.length sc3, .slice da3 dz3.length dc3] 25)).al (.cells #[.int .i64 1, .int .i64 1] 3))
  have B8 : Hid (Abx wo5 (w.heap.size + 1) (.bool c2) (.slice sa2 sz2.length sc2) (.slice da2 dz2.length dc2)) := by rw [hwo5]; exact ((n2.al (.cells #[.bool c3, .slice sa3 sz3.length sc3, .slice da3 dz3.length dc3] 25)).al (.cells #[.int .i64 1, .int .i64 1] 3))
  have B9 : Hid (Abx wo5 (w.heap.size + 1 + 1) (.bool c3) (.slice sa3 sz3.length sc3) (.slice da3 dz3.length dc3)) := by rw [hwo5]; exact (n3.al (.cells #[.int .i64 1, .int .i64 1] 3))
  have L10 : Hid (MidC (w.heap.size + 1 + 1 + 1) (w.heap.size + 1 + 1 + 1 + 1) wo5 (some ⟨w.heap.size + 1 + 1 + 1, 0, none⟩) ([1, 1]) (2)) := by rw [hwo5]; exact n4
  have hb11 : Hid (Below w.heap.size w wo5) := by rw [hwo5]; exact (((((Below.refl w.heap.size w).alloc (by omega) (.cells #[.bool c1, .slice sa1 sz1.length sc1, .slice da1 dz1.length dc1] 25)).alloc (by simp only [World.size_alloc]; omega) (.cells #[.bool c2, .slice sa2 sz2.length sc2, .slice da2 dz2.length dc2] 25)).alloc (by simp only [World.size_alloc]; omega) (.cells #[.bool c3, .slice sa3 sz3.length sc3, .slice da3 dz3.length dc3] 25)).alloc (by simp only [World.size_alloc]; omega) (.cells #[.int .i64 1, .int .i64 1] 3))
  have zwo5 : w.heap.size ≤ wo5.heap.size := hb11.out.size
  clear hwo5 n1 n2 n3 n4
  refine (vec_c (some ⟨w.heap.size + 1 + 1 + 1, 0, none⟩) 2 [1, 1] (by simp) _ (L10.out.is (by omega)).1).mono ?_
  rintro e v1 ⟨vap, vcp, gap, gcp, rfl, hVp, hGp, hB⟩
  have z12 : wo5.heap.size ≤ v1.heap.size := hB.size
  have B13 : Hid (Abx v1 (w.heap.size) (.bool c1) (.slice sa1 sz1.length sc1) (.slice da1 dz1.length dc1)) := B7.out.go hB
  have B14 : Hid (Abx v1 (w.heap.size + 1) (.bool c2) (.slice sa2 sz2.length sc2) (.slice da2 dz2.length dc2)) := B8.out.go hB
  have B15 : Hid (Abx v1 (w.heap.size + 1 + 1) (.bool c3) (.slice sa3 sz3.length sc3) (.slice da3 dz3.length dc3)) := B9.out.go hB
  have L16 : Hid (MidC (w.heap.size + 1 + 1 + 1) (w.heap.size + 1 + 1 + 1 + 1) v1 (some ⟨w.heap.size + 1 + 1 + 1, 0, none⟩) ([1, 1]) (2)) := L10.out.go (by omega) hB
  have hb17 : Hid (Below w.heap.size w v1) := hb11.out.trans (hB.mono hb11.out.size)
  have L18 : Hid (MidC (wo5.heap.size) (v1.heap.size) v1 (vap) ([(2 : Int)]) (vcp)) := hVp.midc
  have L19 : Hid (MidC (wo5.heap.size) (v1.heap.size) v1 (gap) ([1, 1]) (gcp)) := hGp.midc
  clear hB hb11 B7 B8 B9 L10 hVp hGp
  clear L16
  have n20 := lit_mid v1 3 [4, 3] 2 rfl
  simp only [List.map_cons, List.map_nil] at n20
  go_wp2_with fail
  obtain ⟨wo21, hwo21⟩ : ∃ wo21, wo21 = (v1.alloc (.cells #[.int .i64 4, .int .i64 3] 3)) := ⟨_, rfl⟩
  rw [← hwo21]
  have z22 : v1.heap.size + 1 ≤ wo21.heap.size := by rw [hwo21]; simp only [World.size_alloc]; omega
  have B23 : Hid (Abx wo21 (w.heap.size) (.bool c1) (.slice sa1 sz1.length sc1) (.slice da1 dz1.length dc1)) := by rw [hwo21]; exact (B13.out.al (.cells #[.int .i64 4, .int .i64 3] 3))
  have B24 : Hid (Abx wo21 (w.heap.size + 1) (.bool c2) (.slice sa2 sz2.length sc2) (.slice da2 dz2.length dc2)) := by rw [hwo21]; exact (B14.out.al (.cells #[.int .i64 4, .int .i64 3] 3))
  have B25 : Hid (Abx wo21 (w.heap.size + 1 + 1) (.bool c3) (.slice sa3 sz3.length sc3) (.slice da3 dz3.length dc3)) := by rw [hwo21]; exact (B15.out.al (.cells #[.int .i64 4, .int .i64 3] 3))
  have L26 : Hid (MidC (wo5.heap.size) (v1.heap.size) wo21 (vap) ([(2 : Int)]) (vcp)) := by rw [hwo21]; exact (L18.out.al (by omega) (.cells #[.int .i64 4, .int .i64 3] 3))
  have L27 : Hid (MidC (wo5.heap.size) (v1.heap.size) wo21 (gap) ([1, 1]) (gcp)) := by rw [hwo21]; exact (L19.out.al (by omega) (.cells #[.int .i64 4, .int .i64 3] 3))
  have L28 : Hid (MidC (v1.heap.size) (v1.heap.size + 1) wo21 (some ⟨v1.heap.size, 0, none⟩) ([4, 3]) (2)) := by rw [hwo21]; exact n20
  have hb29 : Hid (Below w.heap.size w wo21) := by rw [hwo21]; exact (hb17.out.alloc (by omega) (.cells #[.int .i64 4, .int .i64 3] 3))
  have zwo21 : w.heap.size ≤ wo21.heap.size := hb29.out.size
  clear hwo21 n20 hb17 B13 B14 B15 L18 L19
  refine (vec_c (some ⟨v1.heap.size, 0, none⟩) 2 [4, 3] (by simp) _ (L28.out.is (by omega)).1).mono ?_
  rintro e v2 ⟨vaq, vcq, gaq, gcq, rfl, hVq, hGq, hB⟩
  have z30 : wo21.heap.size ≤ v2.heap.size := hB.size
  have B31 : Hid (Abx v2 (w.heap.size) (.bool c1) (.slice sa1 sz1.length sc1) (.slice da1 dz1.length dc1)) := B23.out.go hB
  have B32 : Hid (Abx v2 (w.heap.size + 1) (.bool c2) (.slice sa2 sz2.length sc2) (.slice da2 dz2.length dc2)) := B24.out.go hB
  have B33 : Hid (Abx v2 (w.heap.size + 1 + 1) (.bool c3) (.slice sa3 sz3.length sc3) (.slice da3 dz3.length dc3)) := B25.out.go hB
  have L34 : Hid (MidC (wo5.heap.size) (v1.heap.size) v2 (vap) ([(2 : Int)]) (vcp)) := L26.out.go (by omega) hB
  have L35 : Hid (MidC (wo5.heap.size) (v1.heap.size) v2 (gap) ([1, 1]) (gcp)) := L27.out.go (by omega) hB
  have L36 : Hid (MidC (v1.heap.size) (v1.heap.size + 1) v2 (some ⟨v1.heap.size, 0, none⟩) ([4, 3]) (2)) := L28.out.go (by omega) hB
  have hb37 : Hid (Below w.heap.size w v2) := hb29.out.trans (hB.mono hb29.out.size)
  have L38 : Hid (MidC (wo21.heap.size) (v2.heap.size) v2 (vaq) ([(2 : Int)]) (vcq)) := hVq.midc
  have L39 : Hid (MidC (wo21.heap.size) (v2.heap.size) v2 (gaq) ([4, 3]) (gcq)) := hGq.midc
  clear hB hb29 B23 B24 B25 L26 L27 L28 hVq hGq
  clear L36
  go_wp2_with fail
  refine (niw_ok 1 3 false vap vcp [(2 : Int)] 1 rfl gap gcp [1, 1] 2 rfl false vaq vcq [(2 : Int)] 1 rfl gaq gcq [4, 3] 2 rfl _ (by unfold In64; decide) (by unfold In64; decide) (by decide) (by decide) (L34.out.is (by omega)) (L35.out.is (by omega)).1 (lit12 (by decide)) (by decide) (by decide) (L38.out.is (by omega)) (L39.out.is (by omega)).1 (lit12 (by decide)) [] [7] HNi (by show inE 1 3 false [(2 : Int)] [1, 1] false [(2 : Int)] [4, 3] = 0 ∧ inS [(2 : Int)] [(2 : Int)] = [] ∧ inD 1 3 false [(2 : Int)] [1, 1] false [(2 : Int)] [4, 3] = [7]; decide +kernel)).mono ?_
  rintro e v3 ⟨f1, g1, f2, g2, rfl, hX0, hY0, hB⟩
  have z40 : v2.heap.size ≤ v3.heap.size := hB.size
  have B41 : Hid (Abx v3 (w.heap.size) (.bool c1) (.slice sa1 sz1.length sc1) (.slice da1 dz1.length dc1)) := B31.out.go hB
  have B42 : Hid (Abx v3 (w.heap.size + 1) (.bool c2) (.slice sa2 sz2.length sc2) (.slice da2 dz2.length dc2)) := B32.out.go hB
  have B43 : Hid (Abx v3 (w.heap.size + 1 + 1) (.bool c3) (.slice sa3 sz3.length sc3) (.slice da3 dz3.length dc3)) := B33.out.go hB
  have L44 : Hid (MidC (wo5.heap.size) (v1.heap.size) v3 (vap) ([(2 : Int)]) (vcp)) := L34.out.go (by omega) hB
  have L45 : Hid (MidC (wo5.heap.size) (v1.heap.size) v3 (gap) ([1, 1]) (gcp)) := L35.out.go (by omega) hB
  have L46 : Hid (MidC (wo21.heap.size) (v2.heap.size) v3 (vaq) ([(2 : Int)]) (vcq)) := L38.out.go (by omega) hB
  have L47 : Hid (MidC (wo21.heap.size) (v2.heap.size) v3 (gaq) ([4, 3]) (gcq)) := L39.out.go (by omega) hB
  have hb48 : Hid (Below w.heap.size w v3) := hb37.out.trans (hB.mono hb37.out.size)
  have L49 : Hid (MidC (v2.heap.size) (v3.heap.size) v3 (f1) ([]) (g1)) := hX0.midc
  have L50 : Hid (MidC (v2.heap.size) (v3.heap.size) v3 (f2) ([7]) (g2)) := hY0.midc
  clear hB hb37 B31 B32 B33 L34 L35 L38 L39 hX0 hY0
  clear L44 L45 L46 L47
  obtain ⟨b51, ob51, rfl, _, _, _, _⟩ := L50.out.at (i := 0) (by decide)
  have n52 := Abx.new v3 (.bool false) (.slice f1 0 g1) (.slice (some ⟨b51, ob51, none⟩) 1 g2)
  have l53 := (n52).c0
  have l54 := (n52).c1
  have l55 := (n52).c2
  obtain ⟨_, _, l56e, _, _, l56, _⟩ := ((L50.out.al (by omega) (.cells #[.bool false, .slice f1 0 g1, .slice (some ⟨b51, ob51, none⟩) 1 g2] 25))).at (i := 0) (by decide)
  cases l56e
  try simp only [Nat.add_zero] at l56
  have l57 := ((B42.out.al (.cells #[.bool false, .slice f1 0 g1, .slice (some ⟨b51, ob51, none⟩) 1 g2] 25))).c0
  have l58 := ((B42.out.al (.cells #[.bool false, .slice f1 0 g1, .slice (some ⟨b51, ob51, none⟩) 1 g2] 25))).c1
  have l59 := ((B42.out.al (.cells #[.bool false, .slice f1 0 g1, .slice (some ⟨b51, ob51, none⟩) 1 g2] 25))).c2
  have l60 := ((B43.out.al (.cells #[.bool false, .slice f1 0 g1, .slice (some ⟨b51, ob51, none⟩) 1 g2] 25))).c0
  have l61 := ((B43.out.al (.cells #[.bool false, .slice f1 0 g1, .slice (some ⟨b51, ob51, none⟩) 1 g2] 25))).c1
  have l62 := ((B43.out.al (.cells #[.bool false, .slice f1 0 g1, .slice (some ⟨b51, ob51, none⟩) 1 g2] 25))).c2
  go_wp2_with fail
  obtain ⟨wo63, hwo63⟩ : ∃ wo63, wo63 = (v3.alloc (.cells #[.bool false, .slice f1 0 g1, .slice (some ⟨b51, ob51, none⟩) 1 g2] 25)) := ⟨_, rfl⟩
  rw [← hwo63]
  have z64 : v3.heap.size + 1 ≤ wo63.heap.size := by rw [hwo63]; simp only [World.size_alloc]; omega
  have B65 : Hid (Abx wo63 (w.heap.size) (.bool c1) (.slice sa1 sz1.length sc1) (.slice da1 dz1.length dc1)) := by rw [hwo63]; exact (B41.out.al (.cells #[.bool false, .slice f1 0 g1, .slice (some ⟨b51, ob51, none⟩) 1 g2] 25))
  have B66 : Hid (Abx wo63 (w.heap.size + 1) (.bool c2) (.slice sa2 sz2.length sc2) (.slice da2 dz2.length dc2)) := by rw [hwo63]; exact (B42.out.al (.cells #[.bool false, .slice f1 0 g1, .slice (some ⟨b51, ob51, none⟩) 1 g2] 25))
  have B67 : Hid (Abx wo63 (w.heap.size + 1 + 1) (.bool c3) (.slice sa3 sz3.length sc3) (.slice da3 dz3.length dc3)) := by rw [hwo63]; exact (B43.out.al (.cells #[.bool false, .slice f1 0 g1, .slice (some ⟨b51, ob51, none⟩) 1 g2] 25))
  have B68 : Hid (Abx wo63 (v3.heap.size) (.bool false) (.slice f1 0 g1) (.slice (some ⟨b51, ob51, none⟩) 1 g2)) := by rw [hwo63]; exact n52
  have L69 : Hid (MidC (v2.heap.size) (v3.heap.size) wo63 (f1) ([]) (g1)) := by rw [hwo63]; exact (L49.out.al (by omega) (.cells #[.bool false, .slice f1 0 g1, .slice (some ⟨b51, ob51, none⟩) 1 g2] 25))
  have L70 : Hid (MidC (v2.heap.size) (v3.heap.size) wo63 (some ⟨b51, ob51, none⟩) ([7]) (g2)) := by rw [hwo63]; exact (L50.out.al (by omega) (.cells #[.bool false, .slice f1 0 g1, .slice (some ⟨b51, ob51, none⟩) 1 g2] 25))
  have hb71 : Hid (Below w.heap.size w wo63) := by rw [hwo63]; exact (hb48.out.alloc (by omega) (.cells #[.bool false, .slice f1 0 g1, .slice (some ⟨b51, ob51, none⟩) 1 g2] 25))
  have zwo63 : w.heap.size ≤ wo63.heap.size := hb71.out.size
  clear hwo63 n52 l53 l54 l55 l56 l57 l58 l59 l60 l61 l62 hb48 B41 B42 B43 L49 L50
  clear L69 L70 B68
  refine (ints_any sa2 sc2 sz2 sa3 sc3 sz3 x21 _ _ ((HI2.out.1.1.below hb71.out).mono hb71.out.size) ((HI3.out.1.1.below hb71.out).mono hb71.out.size)).mono ?_
  rintro e v4 ⟨rfl, hB⟩
  have z72 : wo63.heap.size ≤ v4.heap.size := hB.size
  have B73 : Hid (Abx v4 (w.heap.size) (.bool c1) (.slice sa1 sz1.length sc1) (.slice da1 dz1.length dc1)) := B65.out.go hB
  have B74 : Hid (Abx v4 (w.heap.size + 1) (.bool c2) (.slice sa2 sz2.length sc2) (.slice da2 dz2.length dc2)) := B66.out.go hB
  have B75 : Hid (Abx v4 (w.heap.size + 1 + 1) (.bool c3) (.slice sa3 sz3.length sc3) (.slice da3 dz3.length dc3)) := B67.out.go hB
  have hb76 : Hid (Below w.heap.size w v4) := hb71.out.trans (hB.mono hb71.out.size)
  clear hB hb71 B65 B66 B67
  generalize eqB sz2 sz3 = qq
  have l77 := (B73.out).c0
  have l78 := (B73.out).c1
  have l79 := (B73.out).c2
  go_wp2_with fail
  clear l77 l78 l79
  refine (grid_yes 16 (by decide) c1 sa1 sc1 sz1 da1 dc1 dz1 _ ((HI1.out.1.1.below hb76.out).mono hb76.out.size) G1.out).mono ?_
  rintro e v5 ⟨rfl, hB⟩
  have z80 : v4.heap.size ≤ v5.heap.size := hB.size
  have B81 : Hid (Abx v5 (w.heap.size) (.bool c1) (.slice sa1 sz1.length sc1) (.slice da1 dz1.length dc1)) := B73.out.go hB
  have B82 : Hid (Abx v5 (w.heap.size + 1) (.bool c2) (.slice sa2 sz2.length sc2) (.slice da2 dz2.length dc2)) := B74.out.go hB
  have B83 : Hid (Abx v5 (w.heap.size + 1 + 1) (.bool c3) (.slice sa3 sz3.length sc3) (.slice da3 dz3.length dc3)) := B75.out.go hB
  have hb84 : Hid (Below w.heap.size w v5) := hb76.out.trans (hB.mono hb76.out.size)
  clear hB hb76 B73 B74 B75
  have l85 := (B82.out).c0
  have l86 := (B82.out).c1
  have l87 := (B82.out).c2
  go_wp2_with fail
  clear l85 l86 l87
  refine (grid_yes 16 (by decide) c2 sa2 sc2 sz2 da2 dc2 dz2 _ ((HI2.out.1.1.below hb84.out).mono hb84.out.size) G2.out).mono ?_
  rintro e v6 ⟨rfl, hB⟩
  have z88 : v5.heap.size ≤ v6.heap.size := hB.size
  have B89 : Hid (Abx v6 (w.heap.size) (.bool c1) (.slice sa1 sz1.length sc1) (.slice da1 dz1.length dc1)) := B81.out.go hB
  have B90 : Hid (Abx v6 (w.heap.size + 1) (.bool c2) (.slice sa2 sz2.length sc2) (.slice da2 dz2.length dc2)) := B82.out.go hB
  have B91 : Hid (Abx v6 (w.heap.size + 1 + 1) (.bool c3) (.slice sa3 sz3.length sc3) (.slice da3 dz3.length dc3)) := B83.out.go hB
  have hb92 : Hid (Below w.heap.size w v6) := hb84.out.trans (hB.mono hb84.out.size)
  clear hB hb84 B81 B82 B83
  have l93 := (B91.out).c0
  have l94 := (B91.out).c1
  have l95 := (B91.out).c2
  go_wp2_with fail
  clear l93 l94 l95
  refine (grid_no 16 (by decide) c3 sa3 sc3 sz3 da3 dc3 dz3 _ ((HI3.out.1.1.below hb92.out).mono hb92.out.size) G3.out).mono ?_
  rintro e v7 ⟨rfl, hB⟩
  have z96 : v6.heap.size ≤ v7.heap.size := hB.size
  have B97 : Hid (Abx v7 (w.heap.size) (.bool c1) (.slice sa1 sz1.length sc1) (.slice da1 dz1.length dc1)) := B89.out.go hB
  have B98 : Hid (Abx v7 (w.heap.size + 1) (.bool c2) (.slice sa2 sz2.length sc2) (.slice da2 dz2.length dc2)) := B90.out.go hB
  have B99 : Hid (Abx v7 (w.heap.size + 1 + 1) (.bool c3) (.slice sa3 sz3.length sc3) (.slice da3 dz3.length dc3)) := B91.out.go hB
  have hb100 : Hid (Below w.heap.size w v7) := hb92.out.trans (hB.mono hb92.out.size)
  clear hB hb92 B89 B90 B91
  go_wp2_with fail
  go_ret
  exact ⟨rfl, hb100.out⟩
set_option maxRecDepth 100000 in
set_option maxHeartbeats 4000000 in
theorem sums_s (HNi : CNi) (H2 : C2d) (c1 : Bool) (sa1 : Option Addr) (sc1 : Nat) (sz1 : List Int) (da1 : Option Addr) (dc1 : Nat) (dz1 : List Int) (c2 : Bool) (sa2 : Option Addr) (sc2 : Nat) (sz2 : List Int) (da2 : Option Addr) (dc2 : Nat) (dz2 : List Int) (c3 : Bool) (sa3 : Option Addr) (sc3 : Nat) (sz3 : List Int) (da3 : Option Addr) (dc3 : Nat) (dz3 : List Int) (w : World) (w8 : IsArrD w sa1 sz1 sc1 da1 dz1 dc1) (w9 : IsArrD w sa2 sz2 sc2 da2 dz2 dc2) (w10 : IsArrD w sa3 sz3 sc3 da3 dz3 dc3) (G1 : Hid (GrdP 16 c1 sz1 dz1)) (G2 : Hid (GrdP 16 c2 sz2 dz2)) (G3 : Hid (GrdP 16 c3 sz3 dz3)) (ES : Hid (¬ sz2 = sz3)) :
    Calls Try.prog 5 #[.agg #[.bool c1, .slice sa1 sz1.length sc1, .slice da1 dz1.length dc1], .agg #[.bool c2, .slice sa2 sz2.length sc2, .slice da2 dz2.length dc2], .agg #[.bool c3, .slice sa3 sz3.length sc3, .slice da3 dz3.length dc3]] w fun e w' => e = .returned (.bool true) ∧ Below w.heap.size w w' := by
  obtain ⟨x11, x12, x3, x4, s64, T⟩ := w8
  have HI1 : Hid (IsC w.heap.size w sa1 sz1 sc1 ∧ IsC w.heap.size w da1 dz1 dc1 ∧ (∀ j, In64 (nth sz1 j)) ∧ ∀ j, In64 (nth dz1 j)) := ⟨x3, x4, s64, T⟩
  clear x3 x4 T s64
  obtain ⟨x21, x22, x3, x4, s64, T⟩ := w9
  have HI2 : Hid (IsC w.heap.size w sa2 sz2 sc2 ∧ IsC w.heap.size w da2 dz2 dc2 ∧ (∀ j, In64 (nth sz2 j)) ∧ ∀ j, In64 (nth dz2 j)) := ⟨x3, x4, s64, T⟩
  clear x3 x4 T s64
  obtain ⟨x31, x32, x3, x4, s64, T⟩ := w10
  have HI3 : Hid (IsC w.heap.size w sa3 sz3 sc3 ∧ IsC w.heap.size w da3 dz3 dc3 ∧ (∀ j, In64 (nth sz3 j)) ∧ ∀ j, In64 (nth dz3 j)) := ⟨x3, x4, s64, T⟩
  clear x3 x4 T s64
  have n1 := Abx.new w (.bool c1) (.slice sa1 sz1.length sc1) (.slice da1 dz1.length dc1)
  have n2 := Abx.new (w.alloc (.cells #[.bool c1, .slice sa1 sz1.length sc1, .slice da1 dz1.length dc1] 25)) (.bool c2) (.slice sa2 sz2.length sc2) (.slice da2 dz2.length dc2)
  simp only [World.size_alloc] at n2
  have n3 := Abx.new ((w.alloc (.cells #[.bool c1, .slice sa1 sz1.length sc1, .slice da1 dz1.length dc1] 25)).alloc (.cells #[.bool c2, .slice sa2 sz2.length sc2, .slice da2 dz2.length dc2] 25)) (.bool c3) (.slice sa3 sz3.length sc3) (.slice da3 dz3.length dc3)
  simp only [World.size_alloc] at n3
  have n4 := lit_mid (((w.alloc (.cells #[.bool c1, .slice sa1 sz1.length sc1, .slice da1 dz1.length dc1] 25)).alloc (.cells #[.bool c2, .slice sa2 sz2.length sc2, .slice da2 dz2.length dc2] 25)).alloc (.cells #[.bool c3, .slice sa3 sz3.length sc3, .slice da3 dz3.length dc3] 25)) 3 [1, 1] 2 rfl
  simp only [World.size_alloc, List.map_cons, List.map_nil] at n4
  go_enter Try.func5, Try.ntmps5
  go_wp2_with fail
  obtain ⟨wo5, hwo5⟩ : ∃ wo5, wo5 = ((((w.alloc (.cells #[.bool c1, .slice sa1 sz1.length sc1, .slice da1 dz1.length dc1] 25)).alloc (.cells #[.bool c2, .slice sa2 sz2.length sc2, .slice da2 dz2.length dc2] 25)).alloc (.cells #[.bool c3, .slice sa3 sz3.length sc3, .slice da3 dz3.length dc3] 25)).alloc (.cells #[.int .i64 1, .int .i64 1] 3)) := ⟨_, rfl⟩
  rw [← hwo5]
  have z6 : w.heap.size + 1 + 1 + 1 + 1 ≤ wo5.heap.size := by rw [hwo5]; simp only [World.size_alloc]; omega
  have B7 : Hid (Abx wo5 (w.heap.size) (.bool c1) (.slice sa1 sz1.length sc1) (.slice da1 dz1.length dc1)) := by rw [hwo5]; exact (((n1.al (.cells #[.bool c2, .slice sa2 sz2.length sc2, .slice da2 dz2.length dc2] 25)).al (.cells #[.bool c3, .slice sa3 sz3.length sc3, .slice da3 dz3.length dc3] 25)).al (.cells #[.int .i64 1, .int .i64 1] 3))
  have B8 : Hid (Abx wo5 (w.heap.size + 1) (.bool c2) (.slice sa2 sz2.length sc2) (.slice da2 dz2.length dc2)) := by rw [hwo5]; exact ((n2.al (.cells #[.bool c3, .slice sa3 sz3.length sc3, .slice da3 dz3.length dc3] 25)).al (.cells #[.int .i64 1, .int .i64 1] 3))
  have B9 : Hid (Abx wo5 (w.heap.size + 1 + 1) (.bool c3) (.slice sa3 sz3.length sc3) (.slice da3 dz3.length dc3)) := by rw [hwo5]; exact (n3.al (.cells #[.int .i64 1, .int .i64 1] 3))
  have L10 : Hid (MidC (w.heap.size + 1 + 1 + 1) (w.heap.size + 1 + 1 + 1 + 1) wo5 (some ⟨w.heap.size + 1 + 1 + 1, 0, none⟩) ([1, 1]) (2)) := by rw [hwo5]; exact n4
  have hb11 : Hid (Below w.heap.size w wo5) := by rw [hwo5]; exact (((((Below.refl w.heap.size w).alloc (by omega) (.cells #[.bool c1, .slice sa1 sz1.length sc1, .slice da1 dz1.length dc1] 25)).alloc (by simp only [World.size_alloc]; omega) (.cells #[.bool c2, .slice sa2 sz2.length sc2, .slice da2 dz2.length dc2] 25)).alloc (by simp only [World.size_alloc]; omega) (.cells #[.bool c3, .slice sa3 sz3.length sc3, .slice da3 dz3.length dc3] 25)).alloc (by simp only [World.size_alloc]; omega) (.cells #[.int .i64 1, .int .i64 1] 3))
  have zwo5 : w.heap.size ≤ wo5.heap.size := hb11.out.size
  clear hwo5 n1 n2 n3 n4
  refine (vec_c (some ⟨w.heap.size + 1 + 1 + 1, 0, none⟩) 2 [1, 1] (by simp) _ (L10.out.is (by omega)).1).mono ?_
  rintro e v1 ⟨vap, vcp, gap, gcp, rfl, hVp, hGp, hB⟩
  have z12 : wo5.heap.size ≤ v1.heap.size := hB.size
  have B13 : Hid (Abx v1 (w.heap.size) (.bool c1) (.slice sa1 sz1.length sc1) (.slice da1 dz1.length dc1)) := B7.out.go hB
  have B14 : Hid (Abx v1 (w.heap.size + 1) (.bool c2) (.slice sa2 sz2.length sc2) (.slice da2 dz2.length dc2)) := B8.out.go hB
  have B15 : Hid (Abx v1 (w.heap.size + 1 + 1) (.bool c3) (.slice sa3 sz3.length sc3) (.slice da3 dz3.length dc3)) := B9.out.go hB
  have L16 : Hid (MidC (w.heap.size + 1 + 1 + 1) (w.heap.size + 1 + 1 + 1 + 1) v1 (some ⟨w.heap.size + 1 + 1 + 1, 0, none⟩) ([1, 1]) (2)) := L10.out.go (by omega) hB
  have hb17 : Hid (Below w.heap.size w v1) := hb11.out.trans (hB.mono hb11.out.size)
  have L18 : Hid (MidC (wo5.heap.size) (v1.heap.size) v1 (vap) ([(2 : Int)]) (vcp)) := hVp.midc
  have L19 : Hid (MidC (wo5.heap.size) (v1.heap.size) v1 (gap) ([1, 1]) (gcp)) := hGp.midc
  clear hB hb11 B7 B8 B9 L10 hVp hGp
  clear L16
  have n20 := lit_mid v1 3 [4, 3] 2 rfl
  simp only [List.map_cons, List.map_nil] at n20
  go_wp2_with fail
  obtain ⟨wo21, hwo21⟩ : ∃ wo21, wo21 = (v1.alloc (.cells #[.int .i64 4, .int .i64 3] 3)) := ⟨_, rfl⟩
  rw [← hwo21]
  have z22 : v1.heap.size + 1 ≤ wo21.heap.size := by rw [hwo21]; simp only [World.size_alloc]; omega
  have B23 : Hid (Abx wo21 (w.heap.size) (.bool c1) (.slice sa1 sz1.length sc1) (.slice da1 dz1.length dc1)) := by rw [hwo21]; exact (B13.out.al (.cells #[.int .i64 4, .int .i64 3] 3))
  have B24 : Hid (Abx wo21 (w.heap.size + 1) (.bool c2) (.slice sa2 sz2.length sc2) (.slice da2 dz2.length dc2)) := by rw [hwo21]; exact (B14.out.al (.cells #[.int .i64 4, .int .i64 3] 3))
  have B25 : Hid (Abx wo21 (w.heap.size + 1 + 1) (.bool c3) (.slice sa3 sz3.length sc3) (.slice da3 dz3.length dc3)) := by rw [hwo21]; exact (B15.out.al (.cells #[.int .i64 4, .int .i64 3] 3))
  have L26 : Hid (MidC (wo5.heap.size) (v1.heap.size) wo21 (vap) ([(2 : Int)]) (vcp)) := by rw [hwo21]; exact (L18.out.al (by omega) (.cells #[.int .i64 4, .int .i64 3] 3))
  have L27 : Hid (MidC (wo5.heap.size) (v1.heap.size) wo21 (gap) ([1, 1]) (gcp)) := by rw [hwo21]; exact (L19.out.al (by omega) (.cells #[.int .i64 4, .int .i64 3] 3))
  have L28 : Hid (MidC (v1.heap.size) (v1.heap.size + 1) wo21 (some ⟨v1.heap.size, 0, none⟩) ([4, 3]) (2)) := by rw [hwo21]; exact n20
  have hb29 : Hid (Below w.heap.size w wo21) := by rw [hwo21]; exact (hb17.out.alloc (by omega) (.cells #[.int .i64 4, .int .i64 3] 3))
  have zwo21 : w.heap.size ≤ wo21.heap.size := hb29.out.size
  clear hwo21 n20 hb17 B13 B14 B15 L18 L19
  refine (vec_c (some ⟨v1.heap.size, 0, none⟩) 2 [4, 3] (by simp) _ (L28.out.is (by omega)).1).mono ?_
  rintro e v2 ⟨vaq, vcq, gaq, gcq, rfl, hVq, hGq, hB⟩
  have z30 : wo21.heap.size ≤ v2.heap.size := hB.size
  have B31 : Hid (Abx v2 (w.heap.size) (.bool c1) (.slice sa1 sz1.length sc1) (.slice da1 dz1.length dc1)) := B23.out.go hB
  have B32 : Hid (Abx v2 (w.heap.size + 1) (.bool c2) (.slice sa2 sz2.length sc2) (.slice da2 dz2.length dc2)) := B24.out.go hB
  have B33 : Hid (Abx v2 (w.heap.size + 1 + 1) (.bool c3) (.slice sa3 sz3.length sc3) (.slice da3 dz3.length dc3)) := B25.out.go hB
  have L34 : Hid (MidC (wo5.heap.size) (v1.heap.size) v2 (vap) ([(2 : Int)]) (vcp)) := L26.out.go (by omega) hB
  have L35 : Hid (MidC (wo5.heap.size) (v1.heap.size) v2 (gap) ([1, 1]) (gcp)) := L27.out.go (by omega) hB
  have L36 : Hid (MidC (v1.heap.size) (v1.heap.size + 1) v2 (some ⟨v1.heap.size, 0, none⟩) ([4, 3]) (2)) := L28.out.go (by omega) hB
  have hb37 : Hid (Below w.heap.size w v2) := hb29.out.trans (hB.mono hb29.out.size)
  have L38 : Hid (MidC (wo21.heap.size) (v2.heap.size) v2 (vaq) ([(2 : Int)]) (vcq)) := hVq.midc
  have L39 : Hid (MidC (wo21.heap.size) (v2.heap.size) v2 (gaq) ([4, 3]) (gcq)) := hGq.midc
  clear hB hb29 B23 B24 B25 L26 L27 L28 hVq hGq
  clear L36
  go_wp2_with fail
  refine (niw_ok 1 3 false vap vcp [(2 : Int)] 1 rfl gap gcp [1, 1] 2 rfl false vaq vcq [(2 : Int)] 1 rfl gaq gcq [4, 3] 2 rfl _ (by unfold In64; decide) (by unfold In64; decide) (by decide) (by decide) (L34.out.is (by omega)) (L35.out.is (by omega)).1 (lit12 (by decide)) (by decide) (by decide) (L38.out.is (by omega)) (L39.out.is (by omega)).1 (lit12 (by decide)) [] [7] HNi (by show inE 1 3 false [(2 : Int)] [1, 1] false [(2 : Int)] [4, 3] = 0 ∧ inS [(2 : Int)] [(2 : Int)] = [] ∧ inD 1 3 false [(2 : Int)] [1, 1] false [(2 : Int)] [4, 3] = [7]; decide +kernel)).mono ?_
  rintro e v3 ⟨f1, g1, f2, g2, rfl, hX0, hY0, hB⟩
  have z40 : v2.heap.size ≤ v3.heap.size := hB.size
  have B41 : Hid (Abx v3 (w.heap.size) (.bool c1) (.slice sa1 sz1.length sc1) (.slice da1 dz1.length dc1)) := B31.out.go hB
  have B42 : Hid (Abx v3 (w.heap.size + 1) (.bool c2) (.slice sa2 sz2.length sc2) (.slice da2 dz2.length dc2)) := B32.out.go hB
  have B43 : Hid (Abx v3 (w.heap.size + 1 + 1) (.bool c3) (.slice sa3 sz3.length sc3) (.slice da3 dz3.length dc3)) := B33.out.go hB
  have L44 : Hid (MidC (wo5.heap.size) (v1.heap.size) v3 (vap) ([(2 : Int)]) (vcp)) := L34.out.go (by omega) hB
  have L45 : Hid (MidC (wo5.heap.size) (v1.heap.size) v3 (gap) ([1, 1]) (gcp)) := L35.out.go (by omega) hB
  have L46 : Hid (MidC (wo21.heap.size) (v2.heap.size) v3 (vaq) ([(2 : Int)]) (vcq)) := L38.out.go (by omega) hB
  have L47 : Hid (MidC (wo21.heap.size) (v2.heap.size) v3 (gaq) ([4, 3]) (gcq)) := L39.out.go (by omega) hB
  have hb48 : Hid (Below w.heap.size w v3) := hb37.out.trans (hB.mono hb37.out.size)
  have L49 : Hid (MidC (v2.heap.size) (v3.heap.size) v3 (f1) ([]) (g1)) := hX0.midc
  have L50 : Hid (MidC (v2.heap.size) (v3.heap.size) v3 (f2) ([7]) (g2)) := hY0.midc
  clear hB hb37 B31 B32 B33 L34 L35 L38 L39 hX0 hY0
  clear L44 L45 L46 L47
  obtain ⟨b51, ob51, rfl, _, _, _, _⟩ := L50.out.at (i := 0) (by decide)
  have n52 := Abx.new v3 (.bool false) (.slice f1 0 g1) (.slice (some ⟨b51, ob51, none⟩) 1 g2)
  have l53 := (n52).c0
  have l54 := (n52).c1
  have l55 := (n52).c2
  obtain ⟨_, _, l56e, _, _, l56, _⟩ := ((L50.out.al (by omega) (.cells #[.bool false, .slice f1 0 g1, .slice (some ⟨b51, ob51, none⟩) 1 g2] 25))).at (i := 0) (by decide)
  cases l56e
  try simp only [Nat.add_zero] at l56
  have l57 := ((B42.out.al (.cells #[.bool false, .slice f1 0 g1, .slice (some ⟨b51, ob51, none⟩) 1 g2] 25))).c0
  have l58 := ((B42.out.al (.cells #[.bool false, .slice f1 0 g1, .slice (some ⟨b51, ob51, none⟩) 1 g2] 25))).c1
  have l59 := ((B42.out.al (.cells #[.bool false, .slice f1 0 g1, .slice (some ⟨b51, ob51, none⟩) 1 g2] 25))).c2
  have l60 := ((B43.out.al (.cells #[.bool false, .slice f1 0 g1, .slice (some ⟨b51, ob51, none⟩) 1 g2] 25))).c0
  have l61 := ((B43.out.al (.cells #[.bool false, .slice f1 0 g1, .slice (some ⟨b51, ob51, none⟩) 1 g2] 25))).c1
  have l62 := ((B43.out.al (.cells #[.bool false, .slice f1 0 g1, .slice (some ⟨b51, ob51, none⟩) 1 g2] 25))).c2
  go_wp2_with fail
  obtain ⟨wo63, hwo63⟩ : ∃ wo63, wo63 = (v3.alloc (.cells #[.bool false, .slice f1 0 g1, .slice (some ⟨b51, ob51, none⟩) 1 g2] 25)) := ⟨_, rfl⟩
  rw [← hwo63]
  have z64 : v3.heap.size + 1 ≤ wo63.heap.size := by rw [hwo63]; simp only [World.size_alloc]; omega
  have B65 : Hid (Abx wo63 (w.heap.size) (.bool c1) (.slice sa1 sz1.length sc1) (.slice da1 dz1.length dc1)) := by rw [hwo63]; exact (B41.out.al (.cells #[.bool false, .slice f1 0 g1, .slice (some ⟨b51, ob51, none⟩) 1 g2] 25))
  have B66 : Hid (Abx wo63 (w.heap.size + 1) (.bool c2) (.slice sa2 sz2.length sc2) (.slice da2 dz2.length dc2)) := by rw [hwo63]; exact (B42.out.al (.cells #[.bool false, .slice f1 0 g1, .slice (some ⟨b51, ob51, none⟩) 1 g2] 25))
  have B67 : Hid (Abx wo63 (w.heap.size + 1 + 1) (.bool c3) (.slice sa3 sz3.length sc3) (.slice da3 dz3.length dc3)) := by rw [hwo63]; exact (B43.out.al (.cells #[.bool false, .slice f1 0 g1, .slice (some ⟨b51, ob51, none⟩) 1 g2] 25))
  have B68 : Hid (Abx wo63 (v3.heap.size) (.bool false) (.slice f1 0 g1) (.slice (some ⟨b51, ob51, none⟩) 1 g2)) := by rw [hwo63]; exact n52
  have L69 : Hid (MidC (v2.heap.size) (v3.heap.size) wo63 (f1) ([]) (g1)) := by rw [hwo63]; exact (L49.out.al (by omega) (.cells #[.bool false, .slice f1 0 g1, .slice (some ⟨b51, ob51, none⟩) 1 g2] 25))
  have L70 : Hid (MidC (v2.heap.size) (v3.heap.size) wo63 (some ⟨b51, ob51, none⟩) ([7]) (g2)) := by rw [hwo63]; exact (L50.out.al (by omega) (.cells #[.bool false, .slice f1 0 g1, .slice (some ⟨b51, ob51, none⟩) 1 g2] 25))
  have hb71 : Hid (Below w.heap.size w wo63) := by rw [hwo63]; exact (hb48.out.alloc (by omega) (.cells #[.bool false, .slice f1 0 g1, .slice (some ⟨b51, ob51, none⟩) 1 g2] 25))
  have zwo63 : w.heap.size ≤ wo63.heap.size := hb71.out.size
  clear hwo63 n52 l53 l54 l55 l56 l57 l58 l59 l60 l61 l62 hb48 B41 B42 B43 L49 L50
  clear L69 L70 B68
  refine (ints_any sa2 sc2 sz2 sa3 sc3 sz3 x21 _ _ ((HI2.out.1.1.below hb71.out).mono hb71.out.size) ((HI3.out.1.1.below hb71.out).mono hb71.out.size)).mono ?_
  rintro e v4 ⟨rfl, hB⟩
  have z72 : wo63.heap.size ≤ v4.heap.size := hB.size
  have B73 : Hid (Abx v4 (w.heap.size) (.bool c1) (.slice sa1 sz1.length sc1) (.slice da1 dz1.length dc1)) := B65.out.go hB
  have B74 : Hid (Abx v4 (w.heap.size + 1) (.bool c2) (.slice sa2 sz2.length sc2) (.slice da2 dz2.length dc2)) := B66.out.go hB
  have B75 : Hid (Abx v4 (w.heap.size + 1 + 1) (.bool c3) (.slice sa3 sz3.length sc3) (.slice da3 dz3.length dc3)) := B67.out.go hB
  have hb76 : Hid (Below w.heap.size w v4) := hb71.out.trans (hB.mono hb71.out.size)
  clear hB hb71 B65 B66 B67
  rw [eqB_false ES.out]
  have l77 := (B73.out).c0
  have l78 := (B73.out).c1
  have l79 := (B73.out).c2
  go_wp2_with fail
  clear l77 l78 l79
  refine (grid_yes 16 (by decide) c1 sa1 sc1 sz1 da1 dc1 dz1 _ ((HI1.out.1.1.below hb76.out).mono hb76.out.size) G1.out).mono ?_
  rintro e v5 ⟨rfl, hB⟩
  have z80 : v4.heap.size ≤ v5.heap.size := hB.size
  have B81 : Hid (Abx v5 (w.heap.size) (.bool c1) (.slice sa1 sz1.length sc1) (.slice da1 dz1.length dc1)) := B73.out.go hB
  have B82 : Hid (Abx v5 (w.heap.size + 1) (.bool c2) (.slice sa2 sz2.length sc2) (.slice da2 dz2.length dc2)) := B74.out.go hB
  have B83 : Hid (Abx v5 (w.heap.size + 1 + 1) (.bool c3) (.slice sa3 sz3.length sc3) (.slice da3 dz3.length dc3)) := B75.out.go hB
  have hb84 : Hid (Below w.heap.size w v5) := hb76.out.trans (hB.mono hb76.out.size)
  clear hB hb76 B73 B74 B75
  have l85 := (B82.out).c0
  have l86 := (B82.out).c1
  have l87 := (B82.out).c2
  go_wp2_with fail
  clear l85 l86 l87
  refine (grid_yes 16 (by decide) c2 sa2 sc2 sz2 da2 dc2 dz2 _ ((HI2.out.1.1.below hb84.out).mono hb84.out.size) G2.out).mono ?_
  rintro e v6 ⟨rfl, hB⟩
  have z88 : v5.heap.size ≤ v6.heap.size := hB.size
  have B89 : Hid (Abx v6 (w.heap.size) (.bool c1) (.slice sa1 sz1.length sc1) (.slice da1 dz1.length dc1)) := B81.out.go hB
  have B90 : Hid (Abx v6 (w.heap.size + 1) (.bool c2) (.slice sa2 sz2.length sc2) (.slice da2 dz2.length dc2)) := B82.out.go hB
  have B91 : Hid (Abx v6 (w.heap.size + 1 + 1) (.bool c3) (.slice sa3 sz3.length sc3) (.slice da3 dz3.length dc3)) := B83.out.go hB
  have hb92 : Hid (Below w.heap.size w v6) := hb84.out.trans (hB.mono hb84.out.size)
  clear hB hb84 B81 B82 B83
  have l93 := (B91.out).c0
  have l94 := (B91.out).c1
  have l95 := (B91.out).c2
  go_wp2_with fail
  clear l93 l94 l95
  refine (grid_yes 16 (by decide) c3 sa3 sc3 sz3 da3 dc3 dz3 _ ((HI3.out.1.1.below hb92.out).mono hb92.out.size) G3.out).mono ?_
  rintro e v7 ⟨rfl, hB⟩
  have z96 : v6.heap.size ≤ v7.heap.size := hB.size
  have B97 : Hid (Abx v7 (w.heap.size) (.bool c1) (.slice sa1 sz1.length sc1) (.slice da1 dz1.length dc1)) := B89.out.go hB
  have B98 : Hid (Abx v7 (w.heap.size + 1) (.bool c2) (.slice sa2 sz2.length sc2) (.slice da2 dz2.length dc2)) := B90.out.go hB
  have B99 : Hid (Abx v7 (w.heap.size + 1 + 1) (.bool c3) (.slice sa3 sz3.length sc3) (.slice da3 dz3.length dc3)) := B91.out.go hB
  have hb100 : Hid (Below w.heap.size w v7) := hb92.out.trans (hB.mono hb92.out.size)
  clear hB hb92 B89 B90 B91
  go_wp2_with fail
  go_ret
  exact ⟨rfl, hb100.out⟩
set_option maxRecDepth 100000 in
set_option maxHeartbeats 4000000 in
theorem sums_n (HNi : CNi) (H2 : C2d) (c1 : Bool) (sa1 : Option Addr) (sc1 : Nat) (sz1 : List Int) (da1 : Option Addr) (dc1 : Nat) (dz1 : List Int) (c2 : Bool) (sa2 : Option Addr) (sc2 : Nat) (sz2 : List Int) (da2 : Option Addr) (dc2 : Nat) (dz2 : List Int) (c3 : Bool) (sa3 : Option Addr) (sc3 : Nat) (sz3 : List Int) (da3 : Option Addr) (dc3 : Nat) (dz3 : List Int) (w : World) (w8 : IsArrD w sa1 sz1 sc1 da1 dz1 dc1) (w9 : IsArrD w sa2 sz2 sc2 da2 dz2 dc2) (w10 : IsArrD w sa3 sz3 sc3 da3 dz3 dc3) (G1 : Hid (GrdP 16 c1 sz1 dz1)) (G2 : Hid (GrdP 16 c2 sz2 dz2)) (G3 : Hid (GrdP 16 c3 sz3 dz3)) (ES : Hid (sz2 = sz3)) (E1 : Hid (¬ nth sz1 1 = nth sz2 0)) (E2 : Hid (¬ nth sz2 1 = nth sz1 0)) :
    Calls Try.prog 5 #[.agg #[.bool c1, .slice sa1 sz1.length sc1, .slice da1 dz1.length dc1], .agg #[.bool c2, .slice sa2 sz2.length sc2, .slice da2 dz2.length dc2], .agg #[.bool c3, .slice sa3 sz3.length sc3, .slice da3 dz3.length dc3]] w fun e w' => e = .returned (.bool true) ∧ Below w.heap.size w w' := by
  obtain ⟨b1, o1, rfl, hq1, hc1⟩ := w8.2.2.1.1.at (q := 0) (by rw [G1.out.2.1]; decide)
  have hcf1 := G1.out.1
  subst hcf1
  obtain ⟨m1, hm1⟩ : ∃ m, m = nth sz1 0 := ⟨_, rfl⟩
  obtain ⟨n1, hn1⟩ : ∃ n, n = nth sz1 1 := ⟨_, rfl⟩
  have HC1 : Hid (b1 < w.heap.size ∧ w.cell? ⟨b1, o1, none⟩ = some (.int .i64 m1) ∧ w.cell? ⟨b1, o1 + 1, none⟩ = some (.int .i64 n1)) := ⟨hq1, by have := hc1 0 (by rw [G1.out.2.1]; decide); rw [Nat.add_zero, ← hm1] at this; exact this, by rw [hn1]; exact hc1 1 (by rw [G1.out.2.1]; decide)⟩
  have HM1 : Hid (m1 = nth sz1 0 ∧ n1 = nth sz1 1) := ⟨hm1, hn1⟩
  have hz1 : sz1.length = 2 := G1.out.2.1
  have HZ1 : Hid (sz1.length = 2) := hz1
  have lz1 : 1 < sz1.length := by omega
  have ly1 : 0 < sz1.length := by omega
  have lw1 : (1 : Int) < (sz1.length : Int) := by omega
  have lv1 : (0 : Int) < (sz1.length : Int) := by omega
  clear hq1 hc1 hm1 hn1 hz1
  obtain ⟨b2, o2, rfl, hq2, hc2⟩ := w9.2.2.1.1.at (q := 0) (by rw [G2.out.2.1]; decide)
  have hcf2 := G2.out.1
  subst hcf2
  obtain ⟨m2, hm2⟩ : ∃ m, m = nth sz2 0 := ⟨_, rfl⟩
  obtain ⟨n2, hn2⟩ : ∃ n, n = nth sz2 1 := ⟨_, rfl⟩
  have HC2 : Hid (b2 < w.heap.size ∧ w.cell? ⟨b2, o2, none⟩ = some (.int .i64 m2) ∧ w.cell? ⟨b2, o2 + 1, none⟩ = some (.int .i64 n2)) := ⟨hq2, by have := hc2 0 (by rw [G2.out.2.1]; decide); rw [Nat.add_zero, ← hm2] at this; exact this, by rw [hn2]; exact hc2 1 (by rw [G2.out.2.1]; decide)⟩
  have HM2 : Hid (m2 = nth sz2 0 ∧ n2 = nth sz2 1) := ⟨hm2, hn2⟩
  have hz2 : sz2.length = 2 := G2.out.2.1
  have HZ2 : Hid (sz2.length = 2) := hz2
  have lz2 : 1 < sz2.length := by omega
  have ly2 : 0 < sz2.length := by omega
  have lw2 : (1 : Int) < (sz2.length : Int) := by omega
  have lv2 : (0 : Int) < (sz2.length : Int) := by omega
  clear hq2 hc2 hm2 hn2 hz2
  obtain ⟨b3, o3, rfl, hq3, hc3⟩ := w10.2.2.1.1.at (q := 0) (by rw [G3.out.2.1]; decide)
  have hcf3 := G3.out.1
  subst hcf3
  obtain ⟨m3, hm3⟩ : ∃ m, m = nth sz3 0 := ⟨_, rfl⟩
  obtain ⟨n3, hn3⟩ : ∃ n, n = nth sz3 1 := ⟨_, rfl⟩
  have HC3 : Hid (b3 < w.heap.size ∧ w.cell? ⟨b3, o3, none⟩ = some (.int .i64 m3) ∧ w.cell? ⟨b3, o3 + 1, none⟩ = some (.int .i64 n3)) := ⟨hq3, by have := hc3 0 (by rw [G3.out.2.1]; decide); rw [Nat.add_zero, ← hm3] at this; exact this, by rw [hn3]; exact hc3 1 (by rw [G3.out.2.1]; decide)⟩
  have HM3 : Hid (m3 = nth sz3 0 ∧ n3 = nth sz3 1) := ⟨hm3, hn3⟩
  have hz3 : sz3.length = 2 := G3.out.2.1
  have HZ3 : Hid (sz3.length = 2) := hz3
  have lz3 : 1 < sz3.length := by omega
  have ly3 : 0 < sz3.length := by omega
  have lw3 : (1 : Int) < (sz3.length : Int) := by omega
  have lv3 : (0 : Int) < (sz3.length : Int) := by omega
  clear hq3 hc3 hm3 hn3 hz3
  obtain ⟨D0, Q1, Q2, Q3⟩ := sum13 G2.out G3.out ES.out w9.2.2.2.2.2 w10.2.2.2.2.2
  have HQ1 : Hid (_) := Q1
  have HQ2 : Hid (_) := Q2
  have t1 : (n1 == m2) = false := by rw [HM1.out.2, HM2.out.1]; simpa using E1.out
  have t2 : (n2 != m1) = true := by rw [HM2.out.2, HM1.out.1]; simpa using E2.out
  clear Q1 Q2
  obtain ⟨x11, x12, x3, x4, s64, T⟩ := w8
  have HI1 : Hid (IsC w.heap.size w (some ⟨b1, o1, none⟩) sz1 sc1 ∧ IsC w.heap.size w da1 dz1 dc1 ∧ (∀ j, In64 (nth sz1 j)) ∧ ∀ j, In64 (nth dz1 j)) := ⟨x3, x4, s64, T⟩
  clear x3 x4 T s64
  obtain ⟨x21, x22, x3, x4, s64, T⟩ := w9
  have HI2 : Hid (IsC w.heap.size w (some ⟨b2, o2, none⟩) sz2 sc2 ∧ IsC w.heap.size w da2 dz2 dc2 ∧ (∀ j, In64 (nth sz2 j)) ∧ ∀ j, In64 (nth dz2 j)) := ⟨x3, x4, s64, T⟩
  clear x3 x4 T s64
  obtain ⟨x31, x32, x3, x4, s64, T⟩ := w10
  have HI3 : Hid (IsC w.heap.size w (some ⟨b3, o3, none⟩) sz3 sc3 ∧ IsC w.heap.size w da3 dz3 dc3 ∧ (∀ j, In64 (nth sz3 j)) ∧ ∀ j, In64 (nth dz3 j)) := ⟨x3, x4, s64, T⟩
  clear x3 x4 T s64
  have n1 := Abx.new w (.bool false) (.slice (some ⟨b1, o1, none⟩) sz1.length sc1) (.slice da1 dz1.length dc1)
  have n2 := Abx.new (w.alloc (.cells #[.bool false, .slice (some ⟨b1, o1, none⟩) sz1.length sc1, .slice da1 dz1.length dc1] 25)) (.bool false) (.slice (some ⟨b2, o2, none⟩) sz2.length sc2) (.slice da2 dz2.length dc2)
  simp only [World.size_alloc] at n2
  have n3 := Abx.new ((w.alloc (.cells #[.bool false, .slice (some ⟨b1, o1, none⟩) sz1.length sc1, .slice da1 dz1.length dc1] 25)).alloc (.cells #[.bool false, .slice (some ⟨b2, o2, none⟩) sz2.length sc2, .slice da2 dz2.length dc2] 25)) (.bool false) (.slice (some ⟨b3, o3, none⟩) sz3.length sc3) (.slice da3 dz3.length dc3)
  simp only [World.size_alloc] at n3
  have n4 := lit_mid (((w.alloc (.cells #[.bool false, .slice (some ⟨b1, o1, none⟩) sz1.length sc1, .slice da1 dz1.length dc1] 25)).alloc (.cells #[.bool false, .slice (some ⟨b2, o2, none⟩) sz2.length sc2, .slice da2 dz2.length dc2] 25)).alloc (.cells #[.bool false, .slice (some ⟨b3, o3, none⟩) sz3.length sc3, .slice da3 dz3.length dc3] 25)) 3 [1, 1] 2 rfl
  simp only [World.size_alloc, List.map_cons, List.map_nil] at n4
  go_enter Try.func5, Try.ntmps5
  go_wp2_with fail
  obtain ⟨wo5, hwo5⟩ : ∃ wo5, wo5 = ((((w.alloc (.cells #[.bool false, .slice (some ⟨b1, o1, none⟩) sz1.length sc1, .slice da1 dz1.length dc1] 25)).alloc (.cells #[.bool false, .slice (some ⟨b2, o2, none⟩) sz2.length sc2, .slice da2 dz2.length dc2] 25)).alloc (.cells #[.bool false, .slice (some ⟨b3, o3, none⟩) sz3.length sc3, .slice da3 dz3.length dc3] 25)).alloc (.cells #[.int .i64 1, .int .i64 1] 3)) := ⟨_, rfl⟩
  rw [← hwo5]
  have z6 : w.heap.size + 1 + 1 + 1 + 1 ≤ wo5.heap.size := by rw [hwo5]; simp only [World.size_alloc]; omega
  have B7 : Hid (Abx wo5 (w.heap.size) (.bool false) (.slice (some ⟨b1, o1, none⟩) sz1.length sc1) (.slice da1 dz1.length dc1)) := by rw [hwo5]; exact (((n1.al (.cells #[.bool false, .slice (some ⟨b2, o2, none⟩) sz2.length sc2, .slice da2 dz2.length dc2] 25)).al (.cells #[.bool false, .slice (some ⟨b3, o3, none⟩) sz3.length sc3, .slice da3 dz3.length dc3] 25)).al (.cells #[.int .i64 1, .int .i64 1] 3))
  have B8 : Hid (Abx wo5 (w.heap.size + 1) (.bool false) (.slice (some ⟨b2, o2, none⟩) sz2.length sc2) (.slice da2 dz2.length dc2)) := by rw [hwo5]; exact ((n2.al (.cells #[.bool false, .slice (some ⟨b3, o3, none⟩) sz3.length sc3, .slice da3 dz3.length dc3] 25)).al (.cells #[.int .i64 1, .int .i64 1] 3))
  have B9 : Hid (Abx wo5 (w.heap.size + 1 + 1) (.bool false) (.slice (some ⟨b3, o3, none⟩) sz3.length sc3) (.slice da3 dz3.length dc3)) := by rw [hwo5]; exact (n3.al (.cells #[.int .i64 1, .int .i64 1] 3))
  have L10 : Hid (MidC (w.heap.size + 1 + 1 + 1) (w.heap.size + 1 + 1 + 1 + 1) wo5 (some ⟨w.heap.size + 1 + 1 + 1, 0, none⟩) ([1, 1]) (2)) := by rw [hwo5]; exact n4
  have hb11 : Hid (Below w.heap.size w wo5) := by rw [hwo5]; exact (((((Below.refl w.heap.size w).alloc (by omega) (.cells #[.bool false, .slice (some ⟨b1, o1, none⟩) sz1.length sc1, .slice da1 dz1.length dc1] 25)).alloc (by simp only [World.size_alloc]; omega) (.cells #[.bool false, .slice (some ⟨b2, o2, none⟩) sz2.length sc2, .slice da2 dz2.length dc2] 25)).alloc (by simp only [World.size_alloc]; omega) (.cells #[.bool false, .slice (some ⟨b3, o3, none⟩) sz3.length sc3, .slice da3 dz3.length dc3] 25)).alloc (by simp only [World.size_alloc]; omega) (.cells #[.int .i64 1, .int .i64 1] 3))
  have zwo5 : w.heap.size ≤ wo5.heap.size := hb11.out.size
  clear hwo5 n1 n2 n3 n4
  refine (vec_c (some ⟨w.heap.size + 1 + 1 + 1, 0, none⟩) 2 [1, 1] (by simp) _ (L10.out.is (by omega)).1).mono ?_
  rintro e v1 ⟨vap, vcp, gap, gcp, rfl, hVp, hGp, hB⟩
  have z12 : wo5.heap.size ≤ v1.heap.size := hB.size
  have B13 : Hid (Abx v1 (w.heap.size) (.bool false) (.slice (some ⟨b1, o1, none⟩) sz1.length sc1) (.slice da1 dz1.length dc1)) := B7.out.go hB
  have B14 : Hid (Abx v1 (w.heap.size + 1) (.bool false) (.slice (some ⟨b2, o2, none⟩) sz2.length sc2) (.slice da2 dz2.length dc2)) := B8.out.go hB
  have B15 : Hid (Abx v1 (w.heap.size + 1 + 1) (.bool false) (.slice (some ⟨b3, o3, none⟩) sz3.length sc3) (.slice da3 dz3.length dc3)) := B9.out.go hB
  have L16 : Hid (MidC (w.heap.size + 1 + 1 + 1) (w.heap.size + 1 + 1 + 1 + 1) v1 (some ⟨w.heap.size + 1 + 1 + 1, 0, none⟩) ([1, 1]) (2)) := L10.out.go (by omega) hB
  have hb17 : Hid (Below w.heap.size w v1) := hb11.out.trans (hB.mono hb11.out.size)
  have L18 : Hid (MidC (wo5.heap.size) (v1.heap.size) v1 (vap) ([(2 : Int)]) (vcp)) := hVp.midc
  have L19 : Hid (MidC (wo5.heap.size) (v1.heap.size) v1 (gap) ([1, 1]) (gcp)) := hGp.midc
  clear hB hb11 B7 B8 B9 L10 hVp hGp
  clear L16
  have n20 := lit_mid v1 3 [4, 3] 2 rfl
  simp only [List.map_cons, List.map_nil] at n20
  go_wp2_with fail
  obtain ⟨wo21, hwo21⟩ : ∃ wo21, wo21 = (v1.alloc (.cells #[.int .i64 4, .int .i64 3] 3)) := ⟨_, rfl⟩
  rw [← hwo21]
  have z22 : v1.heap.size + 1 ≤ wo21.heap.size := by rw [hwo21]; simp only [World.size_alloc]; omega
  have B23 : Hid (Abx wo21 (w.heap.size) (.bool false) (.slice (some ⟨b1, o1, none⟩) sz1.length sc1) (.slice da1 dz1.length dc1)) := by rw [hwo21]; exact (B13.out.al (.cells #[.int .i64 4, .int .i64 3] 3))
  have B24 : Hid (Abx wo21 (w.heap.size + 1) (.bool false) (.slice (some ⟨b2, o2, none⟩) sz2.length sc2) (.slice da2 dz2.length dc2)) := by rw [hwo21]; exact (B14.out.al (.cells #[.int .i64 4, .int .i64 3] 3))
  have B25 : Hid (Abx wo21 (w.heap.size + 1 + 1) (.bool false) (.slice (some ⟨b3, o3, none⟩) sz3.length sc3) (.slice da3 dz3.length dc3)) := by rw [hwo21]; exact (B15.out.al (.cells #[.int .i64 4, .int .i64 3] 3))
  have L26 : Hid (MidC (wo5.heap.size) (v1.heap.size) wo21 (vap) ([(2 : Int)]) (vcp)) := by rw [hwo21]; exact (L18.out.al (by omega) (.cells #[.int .i64 4, .int .i64 3] 3))
  have L27 : Hid (MidC (wo5.heap.size) (v1.heap.size) wo21 (gap) ([1, 1]) (gcp)) := by rw [hwo21]; exact (L19.out.al (by omega) (.cells #[.int .i64 4, .int .i64 3] 3))
  have L28 : Hid (MidC (v1.heap.size) (v1.heap.size + 1) wo21 (some ⟨v1.heap.size, 0, none⟩) ([4, 3]) (2)) := by rw [hwo21]; exact n20
  have hb29 : Hid (Below w.heap.size w wo21) := by rw [hwo21]; exact (hb17.out.alloc (by omega) (.cells #[.int .i64 4, .int .i64 3] 3))
  have zwo21 : w.heap.size ≤ wo21.heap.size := hb29.out.size
  clear hwo21 n20 hb17 B13 B14 B15 L18 L19
  refine (vec_c (some ⟨v1.heap.size, 0, none⟩) 2 [4, 3] (by simp) _ (L28.out.is (by omega)).1).mono ?_
  rintro e v2 ⟨vaq, vcq, gaq, gcq, rfl, hVq, hGq, hB⟩
  have z30 : wo21.heap.size ≤ v2.heap.size := hB.size
  have B31 : Hid (Abx v2 (w.heap.size) (.bool false) (.slice (some ⟨b1, o1, none⟩) sz1.length sc1) (.slice da1 dz1.length dc1)) := B23.out.go hB
  have B32 : Hid (Abx v2 (w.heap.size + 1) (.bool false) (.slice (some ⟨b2, o2, none⟩) sz2.length sc2) (.slice da2 dz2.length dc2)) := B24.out.go hB
  have B33 : Hid (Abx v2 (w.heap.size + 1 + 1) (.bool false) (.slice (some ⟨b3, o3, none⟩) sz3.length sc3) (.slice da3 dz3.length dc3)) := B25.out.go hB
  have L34 : Hid (MidC (wo5.heap.size) (v1.heap.size) v2 (vap) ([(2 : Int)]) (vcp)) := L26.out.go (by omega) hB
  have L35 : Hid (MidC (wo5.heap.size) (v1.heap.size) v2 (gap) ([1, 1]) (gcp)) := L27.out.go (by omega) hB
  have L36 : Hid (MidC (v1.heap.size) (v1.heap.size + 1) v2 (some ⟨v1.heap.size, 0, none⟩) ([4, 3]) (2)) := L28.out.go (by omega) hB
  have hb37 : Hid (Below w.heap.size w v2) := hb29.out.trans (hB.mono hb29.out.size)
  have L38 : Hid (MidC (wo21.heap.size) (v2.heap.size) v2 (vaq) ([(2 : Int)]) (vcq)) := hVq.midc
  have L39 : Hid (MidC (wo21.heap.size) (v2.heap.size) v2 (gaq) ([4, 3]) (gcq)) := hGq.midc
  clear hB hb29 B23 B24 B25 L26 L27 L28 hVq hGq
  clear L36
  go_wp2_with fail
  refine (niw_ok 1 3 false vap vcp [(2 : Int)] 1 rfl gap gcp [1, 1] 2 rfl false vaq vcq [(2 : Int)] 1 rfl gaq gcq [4, 3] 2 rfl _ (by unfold In64; decide) (by unfold In64; decide) (by decide) (by decide) (L34.out.is (by omega)) (L35.out.is (by omega)).1 (lit12 (by decide)) (by decide) (by decide) (L38.out.is (by omega)) (L39.out.is (by omega)).1 (lit12 (by decide)) [] [7] HNi (by show inE 1 3 false [(2 : Int)] [1, 1] false [(2 : Int)] [4, 3] = 0 ∧ inS [(2 : Int)] [(2 : Int)] = [] ∧ inD 1 3 false [(2 : Int)] [1, 1] false [(2 : Int)] [4, 3] = [7]; decide +kernel)).mono ?_
  rintro e v3 ⟨f1, g1, f2, g2, rfl, hX0, hY0, hB⟩
  have z40 : v2.heap.size ≤ v3.heap.size := hB.size
  have B41 : Hid (Abx v3 (w.heap.size) (.bool false) (.slice (some ⟨b1, o1, none⟩) sz1.length sc1) (.slice da1 dz1.length dc1)) := B31.out.go hB
  have B42 : Hid (Abx v3 (w.heap.size + 1) (.bool false) (.slice (some ⟨b2, o2, none⟩) sz2.length sc2) (.slice da2 dz2.length dc2)) := B32.out.go hB
  have B43 : Hid (Abx v3 (w.heap.size + 1 + 1) (.bool false) (.slice (some ⟨b3, o3, none⟩) sz3.length sc3) (.slice da3 dz3.length dc3)) := B33.out.go hB
  have L44 : Hid (MidC (wo5.heap.size) (v1.heap.size) v3 (vap) ([(2 : Int)]) (vcp)) := L34.out.go (by omega) hB
  have L45 : Hid (MidC (wo5.heap.size) (v1.heap.size) v3 (gap) ([1, 1]) (gcp)) := L35.out.go (by omega) hB
  have L46 : Hid (MidC (wo21.heap.size) (v2.heap.size) v3 (vaq) ([(2 : Int)]) (vcq)) := L38.out.go (by omega) hB
  have L47 : Hid (MidC (wo21.heap.size) (v2.heap.size) v3 (gaq) ([4, 3]) (gcq)) := L39.out.go (by omega) hB
  have hb48 : Hid (Below w.heap.size w v3) := hb37.out.trans (hB.mono hb37.out.size)
  have L49 : Hid (MidC (v2.heap.size) (v3.heap.size) v3 (f1) ([]) (g1)) := hX0.midc
  have L50 : Hid (MidC (v2.heap.size) (v3.heap.size) v3 (f2) ([7]) (g2)) := hY0.midc
  clear hB hb37 B31 B32 B33 L34 L35 L38 L39 hX0 hY0
  clear L44 L45 L46 L47
  obtain ⟨b51, ob51, rfl, _, _, _, _⟩ := L50.out.at (i := 0) (by decide)
  have n52 := Abx.new v3 (.bool false) (.slice f1 0 g1) (.slice (some ⟨b51, ob51, none⟩) 1 g2)
  have l53 := (n52).c0
  have l54 := (n52).c1
  have l55 := (n52).c2
  obtain ⟨_, _, l56e, _, _, l56, _⟩ := ((L50.out.al (by omega) (.cells #[.bool false, .slice f1 0 g1, .slice (some ⟨b51, ob51, none⟩) 1 g2] 25))).at (i := 0) (by decide)
  cases l56e
  try simp only [Nat.add_zero] at l56
  have l57 := ((B42.out.al (.cells #[.bool false, .slice f1 0 g1, .slice (some ⟨b51, ob51, none⟩) 1 g2] 25))).c0
  have l58 := ((B42.out.al (.cells #[.bool false, .slice f1 0 g1, .slice (some ⟨b51, ob51, none⟩) 1 g2] 25))).c1
  have l59 := ((B42.out.al (.cells #[.bool false, .slice f1 0 g1, .slice (some ⟨b51, ob51, none⟩) 1 g2] 25))).c2
  have l60 := ((B43.out.al (.cells #[.bool false, .slice f1 0 g1, .slice (some ⟨b51, ob51, none⟩) 1 g2] 25))).c0
  have l61 := ((B43.out.al (.cells #[.bool false, .slice f1 0 g1, .slice (some ⟨b51, ob51, none⟩) 1 g2] 25))).c1
  have l62 := ((B43.out.al (.cells #[.bool false, .slice f1 0 g1, .slice (some ⟨b51, ob51, none⟩) 1 g2] 25))).c2
  go_wp2_with fail
  obtain ⟨wo63, hwo63⟩ : ∃ wo63, wo63 = (v3.alloc (.cells #[.bool false, .slice f1 0 g1, .slice (some ⟨b51, ob51, none⟩) 1 g2] 25)) := ⟨_, rfl⟩
  rw [← hwo63]
  have z64 : v3.heap.size + 1 ≤ wo63.heap.size := by rw [hwo63]; simp only [World.size_alloc]; omega
  have B65 : Hid (Abx wo63 (w.heap.size) (.bool false) (.slice (some ⟨b1, o1, none⟩) sz1.length sc1) (.slice da1 dz1.length dc1)) := by rw [hwo63]; exact (B41.out.al (.cells #[.bool false, .slice f1 0 g1, .slice (some ⟨b51, ob51, none⟩) 1 g2] 25))
  have B66 : Hid (Abx wo63 (w.heap.size + 1) (.bool false) (.slice (some ⟨b2, o2, none⟩) sz2.length sc2) (.slice da2 dz2.length dc2)) := by rw [hwo63]; exact (B42.out.al (.cells #[.bool false, .slice f1 0 g1, .slice (some ⟨b51, ob51, none⟩) 1 g2] 25))
  have B67 : Hid (Abx wo63 (w.heap.size + 1 + 1) (.bool false) (.slice (some ⟨b3, o3, none⟩) sz3.length sc3) (.slice da3 dz3.length dc3)) := by rw [hwo63]; exact (B43.out.al (.cells #[.bool false, .slice f1 0 g1, .slice (some ⟨b51, ob51, none⟩) 1 g2] 25))
  have B68 : Hid (Abx wo63 (v3.heap.size) (.bool false) (.slice f1 0 g1) (.slice (some ⟨b51, ob51, none⟩) 1 g2)) := by rw [hwo63]; exact n52
  have L69 : Hid (MidC (v2.heap.size) (v3.heap.size) wo63 (f1) ([]) (g1)) := by rw [hwo63]; exact (L49.out.al (by omega) (.cells #[.bool false, .slice f1 0 g1, .slice (some ⟨b51, ob51, none⟩) 1 g2] 25))
  have L70 : Hid (MidC (v2.heap.size) (v3.heap.size) wo63 (some ⟨b51, ob51, none⟩) ([7]) (g2)) := by rw [hwo63]; exact (L50.out.al (by omega) (.cells #[.bool false, .slice f1 0 g1, .slice (some ⟨b51, ob51, none⟩) 1 g2] 25))
  have hb71 : Hid (Below w.heap.size w wo63) := by rw [hwo63]; exact (hb48.out.alloc (by omega) (.cells #[.bool false, .slice f1 0 g1, .slice (some ⟨b51, ob51, none⟩) 1 g2] 25))
  have zwo63 : w.heap.size ≤ wo63.heap.size := hb71.out.size
  clear hwo63 n52 l53 l54 l55 l56 l57 l58 l59 l60 l61 l62 hb48 B41 B42 B43 L49 L50
  clear L69 L70 B68
  refine (ints_any (some ⟨b2, o2, none⟩) sc2 sz2 (some ⟨b3, o3, none⟩) sc3 sz3 x21 _ _ ((HI2.out.1.1.below hb71.out).mono hb71.out.size) ((HI3.out.1.1.below hb71.out).mono hb71.out.size)).mono ?_
  rintro e v4 ⟨rfl, hB⟩
  have z72 : wo63.heap.size ≤ v4.heap.size := hB.size
  have B73 : Hid (Abx v4 (w.heap.size) (.bool false) (.slice (some ⟨b1, o1, none⟩) sz1.length sc1) (.slice da1 dz1.length dc1)) := B65.out.go hB
  have B74 : Hid (Abx v4 (w.heap.size + 1) (.bool false) (.slice (some ⟨b2, o2, none⟩) sz2.length sc2) (.slice da2 dz2.length dc2)) := B66.out.go hB
  have B75 : Hid (Abx v4 (w.heap.size + 1 + 1) (.bool false) (.slice (some ⟨b3, o3, none⟩) sz3.length sc3) (.slice da3 dz3.length dc3)) := B67.out.go hB
  have hb76 : Hid (Below w.heap.size w v4) := hb71.out.trans (hB.mono hb71.out.size)
  clear hB hb71 B65 B66 B67
  rw [eqB_true ES.out]
  have l77 := (B73.out).c0
  have l78 := (B73.out).c1
  have l79 := (B73.out).c2
  go_wp2_with fail
  clear l77 l78 l79
  refine (grid_yes 16 (by decide) false (some ⟨b1, o1, none⟩) sc1 sz1 da1 dc1 dz1 _ ((HI1.out.1.1.below hb76.out).mono hb76.out.size) G1.out).mono ?_
  rintro e v5 ⟨rfl, hB⟩
  have z80 : v4.heap.size ≤ v5.heap.size := hB.size
  have B81 : Hid (Abx v5 (w.heap.size) (.bool false) (.slice (some ⟨b1, o1, none⟩) sz1.length sc1) (.slice da1 dz1.length dc1)) := B73.out.go hB
  have B82 : Hid (Abx v5 (w.heap.size + 1) (.bool false) (.slice (some ⟨b2, o2, none⟩) sz2.length sc2) (.slice da2 dz2.length dc2)) := B74.out.go hB
  have B83 : Hid (Abx v5 (w.heap.size + 1 + 1) (.bool false) (.slice (some ⟨b3, o3, none⟩) sz3.length sc3) (.slice da3 dz3.length dc3)) := B75.out.go hB
  have hb84 : Hid (Below w.heap.size w v5) := hb76.out.trans (hB.mono hb76.out.size)
  clear hB hb76 B73 B74 B75
  have l85 := (B82.out).c0
  have l86 := (B82.out).c1
  have l87 := (B82.out).c2
  go_wp2_with fail
  clear l85 l86 l87
  refine (grid_yes 16 (by decide) false (some ⟨b2, o2, none⟩) sc2 sz2 da2 dc2 dz2 _ ((HI2.out.1.1.below hb84.out).mono hb84.out.size) G2.out).mono ?_
  rintro e v6 ⟨rfl, hB⟩
  have z88 : v5.heap.size ≤ v6.heap.size := hB.size
  have B89 : Hid (Abx v6 (w.heap.size) (.bool false) (.slice (some ⟨b1, o1, none⟩) sz1.length sc1) (.slice da1 dz1.length dc1)) := B81.out.go hB
  have B90 : Hid (Abx v6 (w.heap.size + 1) (.bool false) (.slice (some ⟨b2, o2, none⟩) sz2.length sc2) (.slice da2 dz2.length dc2)) := B82.out.go hB
  have B91 : Hid (Abx v6 (w.heap.size + 1 + 1) (.bool false) (.slice (some ⟨b3, o3, none⟩) sz3.length sc3) (.slice da3 dz3.length dc3)) := B83.out.go hB
  have hb92 : Hid (Below w.heap.size w v6) := hb84.out.trans (hB.mono hb84.out.size)
  clear hB hb84 B81 B82 B83
  have l93 := (B91.out).c0
  have l94 := (B91.out).c1
  have l95 := (B91.out).c2
  go_wp2_with fail
  clear l93 l94 l95
  refine (grid_yes 16 (by decide) false (some ⟨b3, o3, none⟩) sc3 sz3 da3 dc3 dz3 _ ((HI3.out.1.1.below hb92.out).mono hb92.out.size) G3.out).mono ?_
  rintro e v7 ⟨rfl, hB⟩
  have z96 : v6.heap.size ≤ v7.heap.size := hB.size
  have B97 : Hid (Abx v7 (w.heap.size) (.bool false) (.slice (some ⟨b1, o1, none⟩) sz1.length sc1) (.slice da1 dz1.length dc1)) := B89.out.go hB
  have B98 : Hid (Abx v7 (w.heap.size + 1) (.bool false) (.slice (some ⟨b2, o2, none⟩) sz2.length sc2) (.slice da2 dz2.length dc2)) := B90.out.go hB
  have B99 : Hid (Abx v7 (w.heap.size + 1 + 1) (.bool false) (.slice (some ⟨b3, o3, none⟩) sz3.length sc3) (.slice da3 dz3.length dc3)) := B91.out.go hB
  have hb100 : Hid (Below w.heap.size w v7) := hb92.out.trans (hB.mono hb92.out.size)
  clear hB hb92 B89 B90 B91
  have l101 := (B98.out).c0
  have l102 := (B98.out).c1
  have l103 := (B98.out).c2
  have l104 := (B99.out).c0
  have l105 := (B99.out).c1
  have l106 := (B99.out).c2
  go_wp2_with fail
  clear l101 l102 l103 l104 l105 l106
  refine (c2w_ok H2 1 false (some ⟨b2, o2, none⟩) sc2 sz2 sz2.length rfl da2 dc2 dz2 dz2.length rfl false (some ⟨b3, o3, none⟩) sc3 sz3 sz3.length rfl da3 dc3 dz3 dz3.length rfl _ (by unfold In64; decide) x21 x22 ((HI2.out.1.1.below hb100.out).mono hb100.out.size) ((HI2.out.2.1.1.below hb100.out).mono hb100.out.size) HI2.out.2.2.2 x31 x32 ((HI3.out.1.1.below hb100.out).mono hb100.out.size) ((HI3.out.2.1.1.below hb100.out).mono hb100.out.size) HI3.out.2.2.2 sz2 D0 HQ1.out).mono ?_
  rintro e v8 ⟨xa0, xc0, ya0, yc0, rfl, hX0, hY0, hB⟩
  have z107 : v7.heap.size ≤ v8.heap.size := hB.size
  have B108 : Hid (Abx v8 (w.heap.size) (.bool false) (.slice (some ⟨b1, o1, none⟩) sz1.length sc1) (.slice da1 dz1.length dc1)) := B97.out.go hB
  have B109 : Hid (Abx v8 (w.heap.size + 1) (.bool false) (.slice (some ⟨b2, o2, none⟩) sz2.length sc2) (.slice da2 dz2.length dc2)) := B98.out.go hB
  have B110 : Hid (Abx v8 (w.heap.size + 1 + 1) (.bool false) (.slice (some ⟨b3, o3, none⟩) sz3.length sc3) (.slice da3 dz3.length dc3)) := B99.out.go hB
  have hb111 : Hid (Below w.heap.size w v8) := hb100.out.trans (hB.mono hb100.out.size)
  have L112 : Hid (MidC (v7.heap.size) (v8.heap.size) v8 (xa0) (sz2) (xc0)) := hX0.midc
  have L113 : Hid (MidC (v7.heap.size) (v8.heap.size) v8 (ya0) (D0) (yc0)) := hY0.midc
  clear hB hb100 B97 B98 B99 hX0 hY0
  have n114 := Abx.new v8 (.bool false) (.slice xa0 sz2.length xc0) (.slice ya0 D0.length yc0)
  go_wp2_with fail
  obtain ⟨wo115, hwo115⟩ : ∃ wo115, wo115 = (v8.alloc (.cells #[.bool false, .slice xa0 sz2.length xc0, .slice ya0 D0.length yc0] 25)) := ⟨_, rfl⟩
  rw [← hwo115]
  have z116 : v8.heap.size + 1 ≤ wo115.heap.size := by rw [hwo115]; simp only [World.size_alloc]; omega
  have B117 : Hid (Abx wo115 (w.heap.size) (.bool false) (.slice (some ⟨b1, o1, none⟩) sz1.length sc1) (.slice da1 dz1.length dc1)) := by rw [hwo115]; exact (B108.out.al (.cells #[.bool false, .slice xa0 sz2.length xc0, .slice ya0 D0.length yc0] 25))
  have B118 : Hid (Abx wo115 (w.heap.size + 1) (.bool false) (.slice (some ⟨b2, o2, none⟩) sz2.length sc2) (.slice da2 dz2.length dc2)) := by rw [hwo115]; exact (B109.out.al (.cells #[.bool false, .slice xa0 sz2.length xc0, .slice ya0 D0.length yc0] 25))
  have B119 : Hid (Abx wo115 (w.heap.size + 1 + 1) (.bool false) (.slice (some ⟨b3, o3, none⟩) sz3.length sc3) (.slice da3 dz3.length dc3)) := by rw [hwo115]; exact (B110.out.al (.cells #[.bool false, .slice xa0 sz2.length xc0, .slice ya0 D0.length yc0] 25))
  have B120 : Hid (Abx wo115 (v8.heap.size) (.bool false) (.slice xa0 sz2.length xc0) (.slice ya0 D0.length yc0)) := by rw [hwo115]; exact n114
  have L121 : Hid (MidC (v7.heap.size) (v8.heap.size) wo115 (xa0) (sz2) (xc0)) := by rw [hwo115]; exact (L112.out.al (by omega) (.cells #[.bool false, .slice xa0 sz2.length xc0, .slice ya0 D0.length yc0] 25))
  have L122 : Hid (MidC (v7.heap.size) (v8.heap.size) wo115 (ya0) (D0) (yc0)) := by rw [hwo115]; exact (L113.out.al (by omega) (.cells #[.bool false, .slice xa0 sz2.length xc0, .slice ya0 D0.length yc0] 25))
  have hb123 : Hid (Below w.heap.size w wo115) := by rw [hwo115]; exact (hb111.out.alloc (by omega) (.cells #[.bool false, .slice xa0 sz2.length xc0, .slice ya0 D0.length yc0] 25))
  have zwo115 : w.heap.size ≤ wo115.heap.size := hb123.out.size
  clear hwo115 n114 hb111 B108 B109 B110 L112 L113
  have sx11 : wo115.cell? ⟨b1, o1 + 1, none⟩ = some (.int .i64 n1) := (hb123.out.cell (p := ⟨b1, o1 + 1, none⟩) HC1.out.1).trans HC1.out.2.2
  have sx20 : wo115.cell? ⟨b2, o2, none⟩ = some (.int .i64 m2) := (hb123.out.cell (p := ⟨b2, o2, none⟩) HC2.out.1).trans HC2.out.2.1
  have hb0 : Below wo115.heap.size wo115 wo115.drew := (Below.refl _ wo115).drew
  refine anyC_begin (fun w' => w'.cell? ⟨w.heap.size, 0, none⟩ = some (.bool false) ∧ w'.cell? ⟨w.heap.size, 1, none⟩ = some (.slice (some ⟨b1, o1, none⟩) sz1.length sc1) ∧ w'.cell? ⟨w.heap.size, 2, none⟩ = some (.slice da1 dz1.length dc1) ∧ w'.cell? ⟨w.heap.size + 1, 0, none⟩ = some (.bool false) ∧ w'.cell? ⟨w.heap.size + 1, 1, none⟩ = some (.slice (some ⟨b2, o2, none⟩) sz2.length sc2) ∧ w'.cell? ⟨w.heap.size + 1, 2, none⟩ = some (.slice da2 dz2.length dc2) ∧ w'.cell? ⟨b1, o1 + 1, none⟩ = some (.int .i64 n1) ∧ w'.cell? ⟨b2, o2, none⟩ = some (.int .i64 m2)) 9 #[false, false, false, false, false, false, false, false, false] (by kernel_rfl) rfl rfl ?_
  refine anyC_put 0 83 ?rv497 #[true, false, false, false, false, false, false, false, false] rfl rfl rfl (by kernel_rfl) (by kernel_rfl) (by kernel_rfl) (fun _ _ _ h => h) ?ry497 (⟨(B117.out.go hb0).c0, (B117.out.go hb0).c1, (B117.out.go hb0).c2, (B118.out.go hb0).c0, (B118.out.go hb0).c1, (B118.out.go hb0).c2, cell_to sx11 hb0, cell_to sx20 hb0⟩) ?rm497
  case ry497 => first | exact Or.inl ⟨by rfl, by intro w'; go_simp; first | done | rfl⟩
  case rm497 =>
  simp only [Act.put, List.setIfInBounds_toArray, List.set_cons_zero, List.set_cons_succ]
  refine anyC_take 1 84 ?rv498 #[true, true, false, false, false, false, false, false, false] rfl rfl rfl (by kernel_rfl) (by kernel_rfl) (by kernel_rfl) (fun _ _ _ h => h) ?ry498 (⟨(B117.out.go hb0).c0, (B117.out.go hb0).c1, (B117.out.go hb0).c2, (B118.out.go hb0).c0, (B118.out.go hb0).c1, (B118.out.go hb0).c2, cell_to sx11 hb0, cell_to sx20 hb0⟩) ?rm498
  case ry498 => first | exact Or.inl ⟨by rfl, by intro w' hw'; (try dsimp only at hw'); go_simp; first | done | rfl⟩
  case rm498 =>
  simp only [Act.put, List.setIfInBounds_toArray, List.set_cons_zero, List.set_cons_succ]
  refine anyC_put 2 85 ?rv499 #[true, true, true, false, false, false, false, false, false] rfl rfl rfl (by kernel_rfl) (by kernel_rfl) (by kernel_rfl) (fun _ _ _ h => h) ?ry499 (⟨(B117.out.go hb0).c0, (B117.out.go hb0).c1, (B117.out.go hb0).c2, (B118.out.go hb0).c0, (B118.out.go hb0).c1, (B118.out.go hb0).c2, cell_to sx11 hb0, cell_to sx20 hb0⟩) ?rm499
  case ry499 => first | exact Or.inl ⟨by rfl, by intro w'; go_simp; first | done | rfl⟩
  case rm499 =>
  simp only [Act.put, List.setIfInBounds_toArray, List.set_cons_zero, List.set_cons_succ]
  refine anyC_take 3 86 ?rv500 #[true, true, true, true, false, false, false, false, false] rfl rfl rfl (by kernel_rfl) (by kernel_rfl) (by kernel_rfl) (fun _ _ _ h => h) ?ry500 (⟨(B117.out.go hb0).c0, (B117.out.go hb0).c1, (B117.out.go hb0).c2, (B118.out.go hb0).c0, (B118.out.go hb0).c1, (B118.out.go hb0).c2, cell_to sx11 hb0, cell_to sx20 hb0⟩) ?rm500
  case ry500 => first | exact Or.inl ⟨by rfl, by intro w' hw'; (try dsimp only at hw'); go_simp; first | done | rfl⟩
  case rm500 =>
  simp only [Act.put, List.setIfInBounds_toArray, List.set_cons_zero, List.set_cons_succ]
  refine anyC_put 4 87 ?rv501 #[true, true, true, true, true, false, false, false, false] rfl rfl rfl (by kernel_rfl) (by kernel_rfl) (by kernel_rfl) (fun _ _ _ h => h) ?ry501 (⟨(B117.out.go hb0).c0, (B117.out.go hb0).c1, (B117.out.go hb0).c2, (B118.out.go hb0).c0, (B118.out.go hb0).c1, (B118.out.go hb0).c2, cell_to sx11 hb0, cell_to sx20 hb0⟩) ?rm501
  case ry501 => first | exact Or.inl ⟨by rfl, by intro w'; go_simp; first | done | rfl⟩
  case rm501 =>
  simp only [Act.put, List.setIfInBounds_toArray, List.set_cons_zero, List.set_cons_succ]
  refine anyC_take 5 88 ?rv502 #[true, true, true, true, true, true, false, false, false] rfl rfl rfl (by kernel_rfl) (by kernel_rfl) (by kernel_rfl) (fun _ _ _ h => h) ?ry502 (⟨(B117.out.go hb0).c0, (B117.out.go hb0).c1, (B117.out.go hb0).c2, (B118.out.go hb0).c0, (B118.out.go hb0).c1, (B118.out.go hb0).c2, cell_to sx11 hb0, cell_to sx20 hb0⟩) ?rm502
  case ry502 => first | exact Or.inl ⟨by rfl, by intro w' hw'; (try dsimp only at hw'); go_simp; first | done | rfl⟩
  case rm502 =>
  simp only [Act.put, List.setIfInBounds_toArray, List.set_cons_zero, List.set_cons_succ]
  refine anyC_put 6 89 ?rv503 #[true, true, true, true, true, true, true, false, false] rfl rfl rfl (by kernel_rfl) (by kernel_rfl) (by kernel_rfl) (fun _ _ _ h => h) ?ry503 (⟨(B117.out.go hb0).c0, (B117.out.go hb0).c1, (B117.out.go hb0).c2, (B118.out.go hb0).c0, (B118.out.go hb0).c1, (B118.out.go hb0).c2, cell_to sx11 hb0, cell_to sx20 hb0⟩) ?rm503
  case ry503 => first | exact Or.inl ⟨by rfl, by intro w'; go_simp; first | done | rfl⟩
  case rm503 =>
  simp only [Act.put, List.setIfInBounds_toArray, List.set_cons_zero, List.set_cons_succ]
  refine anyC_take 7 90 ?rv504 #[true, true, true, true, true, true, true, true, false] rfl rfl rfl (by kernel_rfl) (by kernel_rfl) (by kernel_rfl) (fun _ _ _ h => h) ?ry504 (⟨(B117.out.go hb0).c0, (B117.out.go hb0).c1, (B117.out.go hb0).c2, (B118.out.go hb0).c0, (B118.out.go hb0).c1, (B118.out.go hb0).c2, cell_to sx11 hb0, cell_to sx20 hb0⟩) ?rm504
  case ry504 => first | exact Or.inl ⟨by rfl, by intro w' hw'; (try dsimp only at hw'); go_simp; first | done | rfl⟩
  case rm504 =>
  simp only [Act.put, List.setIfInBounds_toArray, List.set_cons_zero, List.set_cons_succ]
  refine anyC_put 8 91 ?rv505 #[true, true, true, true, true, true, true, true, true] rfl rfl rfl (by kernel_rfl) (by kernel_rfl) (by kernel_rfl) (fun _ _ _ h => h) ?ry505 (⟨(B117.out.go hb0).c0, (B117.out.go hb0).c1, (B117.out.go hb0).c2, (B118.out.go hb0).c0, (B118.out.go hb0).c1, (B118.out.go hb0).c2, cell_to sx11 hb0, cell_to sx20 hb0⟩) ?rm505
  case ry505 => first | exact Or.inl ⟨by rfl, by intro w'; go_simp; first | done | rfl⟩
  case rm505 =>
  simp only [Act.put, List.setIfInBounds_toArray, List.set_cons_zero, List.set_cons_succ]
  refine anyC_done (by kernel_rfl) ?_
  have hB := hb0
  have z124 : wo115.heap.size ≤ wo115.drew.heap.size := hB.size
  have B125 : Hid (Abx wo115.drew (w.heap.size) (.bool false) (.slice (some ⟨b1, o1, none⟩) sz1.length sc1) (.slice da1 dz1.length dc1)) := B117.out.go hB
  have B126 : Hid (Abx wo115.drew (w.heap.size + 1) (.bool false) (.slice (some ⟨b2, o2, none⟩) sz2.length sc2) (.slice da2 dz2.length dc2)) := B118.out.go hB
  have B127 : Hid (Abx wo115.drew (w.heap.size + 1 + 1) (.bool false) (.slice (some ⟨b3, o3, none⟩) sz3.length sc3) (.slice da3 dz3.length dc3)) := B119.out.go hB
  have B128 : Hid (Abx wo115.drew (v8.heap.size) (.bool false) (.slice xa0 sz2.length xc0) (.slice ya0 D0.length yc0)) := B120.out.go hB
  have L129 : Hid (MidC (v7.heap.size) (v8.heap.size) wo115.drew (xa0) (sz2) (xc0)) := L121.out.go (by omega) hB
  have L130 : Hid (MidC (v7.heap.size) (v8.heap.size) wo115.drew (ya0) (D0) (yc0)) := L122.out.go (by omega) hB
  have hb131 : Hid (Below w.heap.size w wo115.drew) := hb123.out.trans (hB.mono hb123.out.size)
  clear hB hb123 B117 B118 B119 B120 L121 L122
  go_wp2_with fail
  have sx21 : wo115.drew.cell? ⟨b2, o2 + 1, none⟩ = some (.int .i64 n2) := (hb131.out.cell (p := ⟨b2, o2 + 1, none⟩) HC2.out.1).trans HC2.out.2.2
  have sx10 : wo115.drew.cell? ⟨b1, o1, none⟩ = some (.int .i64 m1) := (hb131.out.cell (p := ⟨b1, o1, none⟩) HC1.out.1).trans HC1.out.2.1
  have hb0b : Below wo115.drew.heap.size wo115.drew wo115.drew.drew := (Below.refl _ wo115.drew).drew
  refine anyC_begin (fun w' => w'.cell? ⟨w.heap.size, 0, none⟩ = some (.bool false) ∧ w'.cell? ⟨w.heap.size, 1, none⟩ = some (.slice (some ⟨b1, o1, none⟩) sz1.length sc1) ∧ w'.cell? ⟨w.heap.size, 2, none⟩ = some (.slice da1 dz1.length dc1) ∧ w'.cell? ⟨w.heap.size + 1, 0, none⟩ = some (.bool false) ∧ w'.cell? ⟨w.heap.size + 1, 1, none⟩ = some (.slice (some ⟨b2, o2, none⟩) sz2.length sc2) ∧ w'.cell? ⟨w.heap.size + 1, 2, none⟩ = some (.slice da2 dz2.length dc2) ∧ w'.cell? ⟨b2, o2 + 1, none⟩ = some (.int .i64 n2) ∧ w'.cell? ⟨b1, o1, none⟩ = some (.int .i64 m1)) 9 #[false, false, false, false, false, false, false, false, false] (by kernel_rfl) rfl rfl ?_
  refine anyC_put 0 131 ?rv506 #[true, false, false, false, false, false, false, false, false] rfl rfl rfl (by kernel_rfl) (by kernel_rfl) (by kernel_rfl) (fun _ _ _ h => h) ?ry506 (⟨(B125.out.go hb0b).c0, (B125.out.go hb0b).c1, (B125.out.go hb0b).c2, (B126.out.go hb0b).c0, (B126.out.go hb0b).c1, (B126.out.go hb0b).c2, cell_to sx21 hb0b, cell_to sx10 hb0b⟩) ?rm506
  case ry506 => first | exact Or.inl ⟨by rfl, by intro w'; go_simp; first | done | rfl⟩
  case rm506 =>
  simp only [Act.put, List.setIfInBounds_toArray, List.set_cons_zero, List.set_cons_succ]
  refine anyC_take 1 132 ?rv507 #[true, true, false, false, false, false, false, false, false] rfl rfl rfl (by kernel_rfl) (by kernel_rfl) (by kernel_rfl) (fun _ _ _ h => h) ?ry507 (⟨(B125.out.go hb0b).c0, (B125.out.go hb0b).c1, (B125.out.go hb0b).c2, (B126.out.go hb0b).c0, (B126.out.go hb0b).c1, (B126.out.go hb0b).c2, cell_to sx21 hb0b, cell_to sx10 hb0b⟩) ?rm507
  case ry507 => first | exact Or.inl ⟨by rfl, by intro w' hw'; (try dsimp only at hw'); go_simp; first | done | rfl⟩
  case rm507 =>
  simp only [Act.put, List.setIfInBounds_toArray, List.set_cons_zero, List.set_cons_succ]
  refine anyC_put 2 133 ?rv508 #[true, true, true, false, false, false, false, false, false] rfl rfl rfl (by kernel_rfl) (by kernel_rfl) (by kernel_rfl) (fun _ _ _ h => h) ?ry508 (⟨(B125.out.go hb0b).c0, (B125.out.go hb0b).c1, (B125.out.go hb0b).c2, (B126.out.go hb0b).c0, (B126.out.go hb0b).c1, (B126.out.go hb0b).c2, cell_to sx21 hb0b, cell_to sx10 hb0b⟩) ?rm508
  case ry508 => first | exact Or.inl ⟨by rfl, by intro w'; go_simp; first | done | rfl⟩
  case rm508 =>
  simp only [Act.put, List.setIfInBounds_toArray, List.set_cons_zero, List.set_cons_succ]
  refine anyC_take 3 134 ?rv509 #[true, true, true, true, false, false, false, false, false] rfl rfl rfl (by kernel_rfl) (by kernel_rfl) (by kernel_rfl) (fun _ _ _ h => h) ?ry509 (⟨(B125.out.go hb0b).c0, (B125.out.go hb0b).c1, (B125.out.go hb0b).c2, (B126.out.go hb0b).c0, (B126.out.go hb0b).c1, (B126.out.go hb0b).c2, cell_to sx21 hb0b, cell_to sx10 hb0b⟩) ?rm509
  case ry509 => first | exact Or.inl ⟨by rfl, by intro w' hw'; (try dsimp only at hw'); go_simp; first | done | rfl⟩
  case rm509 =>
  simp only [Act.put, List.setIfInBounds_toArray, List.set_cons_zero, List.set_cons_succ]
  refine anyC_put 4 135 ?rv510 #[true, true, true, true, true, false, false, false, false] rfl rfl rfl (by kernel_rfl) (by kernel_rfl) (by kernel_rfl) (fun _ _ _ h => h) ?ry510 (⟨(B125.out.go hb0b).c0, (B125.out.go hb0b).c1, (B125.out.go hb0b).c2, (B126.out.go hb0b).c0, (B126.out.go hb0b).c1, (B126.out.go hb0b).c2, cell_to sx21 hb0b, cell_to sx10 hb0b⟩) ?rm510
  case ry510 => first | exact Or.inl ⟨by rfl, by intro w'; go_simp; first | done | rfl⟩
  case rm510 =>
  simp only [Act.put, List.setIfInBounds_toArray, List.set_cons_zero, List.set_cons_succ]
  refine anyC_take 5 136 ?rv511 #[true, true, true, true, true, true, false, false, false] rfl rfl rfl (by kernel_rfl) (by kernel_rfl) (by kernel_rfl) (fun _ _ _ h => h) ?ry511 (⟨(B125.out.go hb0b).c0, (B125.out.go hb0b).c1, (B125.out.go hb0b).c2, (B126.out.go hb0b).c0, (B126.out.go hb0b).c1, (B126.out.go hb0b).c2, cell_to sx21 hb0b, cell_to sx10 hb0b⟩) ?rm511
  case ry511 => first | exact Or.inl ⟨by rfl, by intro w' hw'; (try dsimp only at hw'); go_simp; first | done | rfl⟩
  case rm511 =>
  simp only [Act.put, List.setIfInBounds_toArray, List.set_cons_zero, List.set_cons_succ]
  refine anyC_put 6 137 ?rv512 #[true, true, true, true, true, true, true, false, false] rfl rfl rfl (by kernel_rfl) (by kernel_rfl) (by kernel_rfl) (fun _ _ _ h => h) ?ry512 (⟨(B125.out.go hb0b).c0, (B125.out.go hb0b).c1, (B125.out.go hb0b).c2, (B126.out.go hb0b).c0, (B126.out.go hb0b).c1, (B126.out.go hb0b).c2, cell_to sx21 hb0b, cell_to sx10 hb0b⟩) ?rm512
  case ry512 => first | exact Or.inl ⟨by rfl, by intro w'; go_simp; first | done | rfl⟩
  case rm512 =>
  simp only [Act.put, List.setIfInBounds_toArray, List.set_cons_zero, List.set_cons_succ]
  refine anyC_take 7 138 ?rv513 #[true, true, true, true, true, true, true, true, false] rfl rfl rfl (by kernel_rfl) (by kernel_rfl) (by kernel_rfl) (fun _ _ _ h => h) ?ry513 (⟨(B125.out.go hb0b).c0, (B125.out.go hb0b).c1, (B125.out.go hb0b).c2, (B126.out.go hb0b).c0, (B126.out.go hb0b).c1, (B126.out.go hb0b).c2, cell_to sx21 hb0b, cell_to sx10 hb0b⟩) ?rm513
  case ry513 => first | exact Or.inl ⟨by rfl, by intro w' hw'; (try dsimp only at hw'); go_simp; first | done | rfl⟩
  case rm513 =>
  simp only [Act.put, List.setIfInBounds_toArray, List.set_cons_zero, List.set_cons_succ]
  refine anyC_put 8 139 ?rv514 #[true, true, true, true, true, true, true, true, true] rfl rfl rfl (by kernel_rfl) (by kernel_rfl) (by kernel_rfl) (fun _ _ _ h => h) ?ry514 (⟨(B125.out.go hb0b).c0, (B125.out.go hb0b).c1, (B125.out.go hb0b).c2, (B126.out.go hb0b).c0, (B126.out.go hb0b).c1, (B126.out.go hb0b).c2, cell_to sx21 hb0b, cell_to sx10 hb0b⟩) ?rm514
  case ry514 => first | exact Or.inl ⟨by rfl, by intro w'; go_simp; first | done | rfl⟩
  case rm514 =>
  simp only [Act.put, List.setIfInBounds_toArray, List.set_cons_zero, List.set_cons_succ]
  refine anyC_done (by kernel_rfl) ?_
  have hB := hb0b
  have z132 : wo115.drew.heap.size ≤ wo115.drew.drew.heap.size := hB.size
  have B133 : Hid (Abx wo115.drew.drew (w.heap.size) (.bool false) (.slice (some ⟨b1, o1, none⟩) sz1.length sc1) (.slice da1 dz1.length dc1)) := B125.out.go hB
  have B134 : Hid (Abx wo115.drew.drew (w.heap.size + 1) (.bool false) (.slice (some ⟨b2, o2, none⟩) sz2.length sc2) (.slice da2 dz2.length dc2)) := B126.out.go hB
  have B135 : Hid (Abx wo115.drew.drew (w.heap.size + 1 + 1) (.bool false) (.slice (some ⟨b3, o3, none⟩) sz3.length sc3) (.slice da3 dz3.length dc3)) := B127.out.go hB
  have B136 : Hid (Abx wo115.drew.drew (v8.heap.size) (.bool false) (.slice xa0 sz2.length xc0) (.slice ya0 D0.length yc0)) := B128.out.go hB
  have L137 : Hid (MidC (v7.heap.size) (v8.heap.size) wo115.drew.drew (xa0) (sz2) (xc0)) := L129.out.go (by omega) hB
  have L138 : Hid (MidC (v7.heap.size) (v8.heap.size) wo115.drew.drew (ya0) (D0) (yc0)) := L130.out.go (by omega) hB
  have hb139 : Hid (Below w.heap.size w wo115.drew.drew) := hb131.out.trans (hB.mono hb131.out.size)
  clear hB hb131 B125 B126 B127 B128 L129 L130
  go_wp2_with fail
  go_ret
  exact ⟨rfl, hb139.out⟩
set_option maxRecDepth 100000 in
set_option maxHeartbeats 4000000 in
theorem sums_r (HNi : CNi) (H2 : C2d) (c1 : Bool) (sa1 : Option Addr) (sc1 : Nat) (sz1 : List Int) (da1 : Option Addr) (dc1 : Nat) (dz1 : List Int) (c2 : Bool) (sa2 : Option Addr) (sc2 : Nat) (sz2 : List Int) (da2 : Option Addr) (dc2 : Nat) (dz2 : List Int) (c3 : Bool) (sa3 : Option Addr) (sc3 : Nat) (sz3 : List Int) (da3 : Option Addr) (dc3 : Nat) (dz3 : List Int) (w : World) (w8 : IsArrD w sa1 sz1 sc1 da1 dz1 dc1) (w9 : IsArrD w sa2 sz2 sc2 da2 dz2 dc2) (w10 : IsArrD w sa3 sz3 sc3 da3 dz3 dc3) (G1 : Hid (GrdP 16 c1 sz1 dz1)) (G2 : Hid (GrdP 16 c2 sz2 dz2)) (G3 : Hid (GrdP 16 c3 sz3 dz3)) (ES : Hid (sz2 = sz3)) (E1 : Hid (nth sz1 1 = nth sz2 0)) (E2 : Hid (¬ nth sz2 1 = nth sz1 0)) :
    Calls Try.prog 5 #[.agg #[.bool c1, .slice sa1 sz1.length sc1, .slice da1 dz1.length dc1], .agg #[.bool c2, .slice sa2 sz2.length sc2, .slice da2 dz2.length dc2], .agg #[.bool c3, .slice sa3 sz3.length sc3, .slice da3 dz3.length dc3]] w fun e w' => e = .returned (.bool true) ∧ Below w.heap.size w w' := by
  obtain ⟨b1, o1, rfl, hq1, hc1⟩ := w8.2.2.1.1.at (q := 0) (by rw [G1.out.2.1]; decide)
  have hcf1 := G1.out.1
  subst hcf1
  obtain ⟨m1, hm1⟩ : ∃ m, m = nth sz1 0 := ⟨_, rfl⟩
  obtain ⟨n1, hn1⟩ : ∃ n, n = nth sz1 1 := ⟨_, rfl⟩
  have HC1 : Hid (b1 < w.heap.size ∧ w.cell? ⟨b1, o1, none⟩ = some (.int .i64 m1) ∧ w.cell? ⟨b1, o1 + 1, none⟩ = some (.int .i64 n1)) := ⟨hq1, by have := hc1 0 (by rw [G1.out.2.1]; decide); rw [Nat.add_zero, ← hm1] at this; exact this, by rw [hn1]; exact hc1 1 (by rw [G1.out.2.1]; decide)⟩
  have HM1 : Hid (m1 = nth sz1 0 ∧ n1 = nth sz1 1) := ⟨hm1, hn1⟩
  have hz1 : sz1.length = 2 := G1.out.2.1
  have HZ1 : Hid (sz1.length = 2) := hz1
  have lz1 : 1 < sz1.length := by omega
  have ly1 : 0 < sz1.length := by omega
  have lw1 : (1 : Int) < (sz1.length : Int) := by omega
  have lv1 : (0 : Int) < (sz1.length : Int) := by omega
  clear hq1 hc1 hm1 hn1 hz1
  obtain ⟨b2, o2, rfl, hq2, hc2⟩ := w9.2.2.1.1.at (q := 0) (by rw [G2.out.2.1]; decide)
  have hcf2 := G2.out.1
  subst hcf2
  obtain ⟨m2, hm2⟩ : ∃ m, m = nth sz2 0 := ⟨_, rfl⟩
  obtain ⟨n2, hn2⟩ : ∃ n, n = nth sz2 1 := ⟨_, rfl⟩
  have HC2 : Hid (b2 < w.heap.size ∧ w.cell? ⟨b2, o2, none⟩ = some (.int .i64 m2) ∧ w.cell? ⟨b2, o2 + 1, none⟩ = some (.int .i64 n2)) := ⟨hq2, by have := hc2 0 (by rw [G2.out.2.1]; decide); rw [Nat.add_zero, ← hm2] at this; exact this, by rw [hn2]; exact hc2 1 (by rw [G2.out.2.1]; decide)⟩
  have HM2 : Hid (m2 = nth sz2 0 ∧ n2 = nth sz2 1) := ⟨hm2, hn2⟩
  have hz2 : sz2.length = 2 := G2.out.2.1
  have HZ2 : Hid (sz2.length = 2) := hz2
  have lz2 : 1 < sz2.length := by omega
  have ly2 : 0 < sz2.length := by omega
  have lw2 : (1 : Int) < (sz2.length : Int) := by omega
  have lv2 : (0 : Int) < (sz2.length : Int) := by omega
  clear hq2 hc2 hm2 hn2 hz2
  obtain ⟨b3, o3, rfl, hq3, hc3⟩ := w10.2.2.1.1.at (q := 0) (by rw [G3.out.2.1]; decide)
  have hcf3 := G3.out.1
  subst hcf3
  obtain ⟨m3, hm3⟩ : ∃ m, m = nth sz3 0 := ⟨_, rfl⟩
  obtain ⟨n3, hn3⟩ : ∃ n, n = nth sz3 1 := ⟨_, rfl⟩
  have HC3 : Hid (b3 < w.heap.size ∧ w.cell? ⟨b3, o3, none⟩ = some (.int .i64 m3) ∧ w.cell? ⟨b3, o3 + 1, none⟩ = some (.int .i64 n3)) := ⟨hq3, by have := hc3 0 (by rw [G3.out.2.1]; decide); rw [Nat.add_zero, ← hm3] at this; exact this, by rw [hn3]; exact hc3 1 (by rw [G3.out.2.1]; decide)⟩
  have HM3 : Hid (m3 = nth sz3 0 ∧ n3 = nth sz3 1) := ⟨hm3, hn3⟩
  have hz3 : sz3.length = 2 := G3.out.2.1
  have HZ3 : Hid (sz3.length = 2) := hz3
  have lz3 : 1 < sz3.length := by omega
  have ly3 : 0 < sz3.length := by omega
  have lw3 : (1 : Int) < (sz3.length : Int) := by omega
  have lv3 : (0 : Int) < (sz3.length : Int) := by omega
  clear hq3 hc3 hm3 hn3 hz3
  obtain ⟨D0, Q1, Q2, Q3⟩ := sum13 G2.out G3.out ES.out w9.2.2.2.2.2 w10.2.2.2.2.2
  have HQ1 : Hid (_) := Q1
  have HQ2 : Hid (_) := Q2
  have t1 : (n1 == m2) = true := by rw [HM1.out.2, HM2.out.1]; rw [E1.out]; simp
  have t2 : (n2 != m1) = true := by rw [HM2.out.2, HM1.out.1]; simpa using E2.out
  obtain ⟨S, DX, DP, DQ, R1, R2, R3, R4, TT, L1⟩ := sumr13 G1.out G2.out G3.out ES.out E1.out w8.2.2.2.2.2 w9.2.2.2.2.2 w10.2.2.2.2.2 Q1.2.2
  have HR1 : Hid (_) := R1
  have HR2 : Hid (_) := R2
  have HR3 : Hid (_) := R3
  have HR4 : Hid (_) := R4
  have HTT : Hid (_) := TT
  clear R1 R2 R3 R4 TT
  clear Q1 Q2
  obtain ⟨x11, x12, x3, x4, s64, T⟩ := w8
  have HI1 : Hid (IsC w.heap.size w (some ⟨b1, o1, none⟩) sz1 sc1 ∧ IsC w.heap.size w da1 dz1 dc1 ∧ (∀ j, In64 (nth sz1 j)) ∧ ∀ j, In64 (nth dz1 j)) := ⟨x3, x4, s64, T⟩
  clear x3 x4 T s64
  obtain ⟨x21, x22, x3, x4, s64, T⟩ := w9
  have HI2 : Hid (IsC w.heap.size w (some ⟨b2, o2, none⟩) sz2 sc2 ∧ IsC w.heap.size w da2 dz2 dc2 ∧ (∀ j, In64 (nth sz2 j)) ∧ ∀ j, In64 (nth dz2 j)) := ⟨x3, x4, s64, T⟩
  clear x3 x4 T s64
  obtain ⟨x31, x32, x3, x4, s64, T⟩ := w10
  have HI3 : Hid (IsC w.heap.size w (some ⟨b3, o3, none⟩) sz3 sc3 ∧ IsC w.heap.size w da3 dz3 dc3 ∧ (∀ j, In64 (nth sz3 j)) ∧ ∀ j, In64 (nth dz3 j)) := ⟨x3, x4, s64, T⟩
  clear x3 x4 T s64
  have n1 := Abx.new w (.bool false) (.slice (some ⟨b1, o1, none⟩) sz1.length sc1) (.slice da1 dz1.length dc1)
  have n2 := Abx.new (w.alloc (.cells #[.bool false, .slice (some ⟨b1, o1, none⟩) sz1.length sc1, .slice da1 dz1.length dc1] 25)) (.bool false) (.slice (some ⟨b2, o2, none⟩) sz2.length sc2) (.slice da2 dz2.length dc2)
  simp only [World.size_alloc] at n2
  have n3 := Abx.new ((w.alloc (.cells #[.bool false, .slice (some ⟨b1, o1, none⟩) sz1.length sc1, .slice da1 dz1.length dc1] 25)).alloc (.cells #[.bool false, .slice (some ⟨b2, o2, none⟩) sz2.length sc2, .slice da2 dz2.length dc2] 25)) (.bool false) (.slice (some ⟨b3, o3, none⟩) sz3.length sc3) (.slice da3 dz3.length dc3)
  simp only [World.size_alloc] at n3
  have n4 := lit_mid (((w.alloc (.cells #[.bool false, .slice (some ⟨b1, o1, none⟩) sz1.length sc1, .slice da1 dz1.length dc1] 25)).alloc (.cells #[.bool false, .slice (some ⟨b2, o2, none⟩) sz2.length sc2, .slice da2 dz2.length dc2] 25)).alloc (.cells #[.bool false, .slice (some ⟨b3, o3, none⟩) sz3.length sc3, .slice da3 dz3.length dc3] 25)) 3 [1, 1] 2 rfl
  simp only [World.size_alloc, List.map_cons, List.map_nil] at n4
  go_enter Try.func5, Try.ntmps5
  go_wp2_with fail
  obtain ⟨wo5, hwo5⟩ : ∃ wo5, wo5 = ((((w.alloc (.cells #[.bool false, .slice (some ⟨b1, o1, none⟩) sz1.length sc1, .slice da1 dz1.length dc1] 25)).alloc (.cells #[.bool false, .slice (some ⟨b2, o2, none⟩) sz2.length sc2, .slice da2 dz2.length dc2] 25)).alloc (.cells #[.bool false, .slice (some ⟨b3, o3, none⟩) sz3.length sc3, .slice da3 dz3.length dc3] 25)).alloc (.cells #[.int .i64 1, .int .i64 1] 3)) := ⟨_, rfl⟩
  rw [← hwo5]
  have z6 : w.heap.size + 1 + 1 + 1 + 1 ≤ wo5.heap.size := by rw [hwo5]; simp only [World.size_alloc]; omega
  have B7 : Hid (Abx wo5 (w.heap.size) (.bool false) (.slice (some ⟨b1, o1, none⟩) sz1.length sc1) (.slice da1 dz1.length dc1)) := by rw [hwo5]; exact (((n1.al (.cells #[.bool false, .slice (some ⟨b2, o2, none⟩) sz2.length sc2, .slice da2 dz2.length dc2] 25)).al (.cells #[.bool false, .slice (some ⟨b3, o3, none⟩) sz3.length sc3, .slice da3 dz3.length dc3] 25)).al (.cells #[.int .i64 1, .int .i64 1] 3))
  have B8 : Hid (Abx wo5 (w.heap.size + 1) (.bool false) (.slice (some ⟨b2, o2, none⟩) sz2.length sc2) (.slice da2 dz2.length dc2)) := by rw [hwo5]; exact ((n2.al (.cells #[.bool false, .slice (some ⟨b3, o3, none⟩) sz3.length sc3, .slice da3 dz3.length dc3] 25)).al (.cells #[.int .i64 1, .int .i64 1] 3))
  have B9 : Hid (Abx wo5 (w.heap.size + 1 + 1) (.bool false) (.slice (some ⟨b3, o3, none⟩) sz3.length sc3) (.slice da3 dz3.length dc3)) := by rw [hwo5]; exact (n3.al (.cells #[.int .i64 1, .int .i64 1] 3))
  have L10 : Hid (MidC (w.heap.size + 1 + 1 + 1) (w.heap.size + 1 + 1 + 1 + 1) wo5 (some ⟨w.heap.size + 1 + 1 + 1, 0, none⟩) ([1, 1]) (2)) := by rw [hwo5]; exact n4
  have hb11 : Hid (Below w.heap.size w wo5) := by rw [hwo5]; exact (((((Below.refl w.heap.size w).alloc (by omega) (.cells #[.bool false, .slice (some ⟨b1, o1, none⟩) sz1.length sc1, .slice da1 dz1.length dc1] 25)).alloc (by simp only [World.size_alloc]; omega) (.cells #[.bool false, .slice (some ⟨b2, o2, none⟩) sz2.length sc2, .slice da2 dz2.length dc2] 25)).alloc (by simp only [World.size_alloc]; omega) (.cells #[.bool false, .slice (some ⟨b3, o3, none⟩) sz3.length sc3, .slice da3 dz3.length dc3] 25)).alloc (by simp only [World.size_alloc]; omega) (.cells #[.int .i64 1, .int .i64 1] 3))
  have zwo5 : w.heap.size ≤ wo5.heap.size := hb11.out.size
  clear hwo5 n1 n2 n3 n4
  refine (vec_c (some ⟨w.heap.size + 1 + 1 + 1, 0, none⟩) 2 [1, 1] (by simp) _ (L10.out.is (by omega)).1).mono ?_
  rintro e v1 ⟨vap, vcp, gap, gcp, rfl, hVp, hGp, hB⟩
  have z12 : wo5.heap.size ≤ v1.heap.size := hB.size
  have B13 : Hid (Abx v1 (w.heap.size) (.bool false) (.slice (some ⟨b1, o1, none⟩) sz1.length sc1) (.slice da1 dz1.length dc1)) := B7.out.go hB
  have B14 : Hid (Abx v1 (w.heap.size + 1) (.bool false) (.slice (some ⟨b2, o2, none⟩) sz2.length sc2) (.slice da2 dz2.length dc2)) := B8.out.go hB
  have B15 : Hid (Abx v1 (w.heap.size + 1 + 1) (.bool false) (.slice (some ⟨b3, o3, none⟩) sz3.length sc3) (.slice da3 dz3.length dc3)) := B9.out.go hB
  have L16 : Hid (MidC (w.heap.size + 1 + 1 + 1) (w.heap.size + 1 + 1 + 1 + 1) v1 (some ⟨w.heap.size + 1 + 1 + 1, 0, none⟩) ([1, 1]) (2)) := L10.out.go (by omega) hB
  have hb17 : Hid (Below w.heap.size w v1) := hb11.out.trans (hB.mono hb11.out.size)
  have L18 : Hid (MidC (wo5.heap.size) (v1.heap.size) v1 (vap) ([(2 : Int)]) (vcp)) := hVp.midc
  have L19 : Hid (MidC (wo5.heap.size) (v1.heap.size) v1 (gap) ([1, 1]) (gcp)) := hGp.midc
  clear hB hb11 B7 B8 B9 L10 hVp hGp
  clear L16
  have n20 := lit_mid v1 3 [4, 3] 2 rfl
  simp only [List.map_cons, List.map_nil] at n20
  go_wp2_with fail
  obtain ⟨wo21, hwo21⟩ : ∃ wo21, wo21 = (v1.alloc (.cells #[.int .i64 4, .int .i64 3] 3)) := ⟨_, rfl⟩
  rw [← hwo21]
  have z22 : v1.heap.size + 1 ≤ wo21.heap.size := by rw [hwo21]; simp only [World.size_alloc]; omega
  have B23 : Hid (Abx wo21 (w.heap.size) (.bool false) (.slice (some ⟨b1, o1, none⟩) sz1.length sc1) (.slice da1 dz1.length dc1)) := by rw [hwo21]; exact (B13.out.al (.cells #[.int .i64 4, .int .i64 3] 3))
  have B24 : Hid (Abx wo21 (w.heap.size + 1) (.bool false) (.slice (some ⟨b2, o2, none⟩) sz2.length sc2) (.slice da2 dz2.length dc2)) := by rw [hwo21]; exact (B14.out.al (.cells #[.int .i64 4, .int .i64 3] 3))
  have B25 : Hid (Abx wo21 (w.heap.size + 1 + 1) (.bool false) (.slice (some ⟨b3, o3, none⟩) sz3.length sc3) (.slice da3 dz3.length dc3)) := by rw [hwo21]; exact (B15.out.al (.cells #[.int .i64 4, .int .i64 3] 3))
  have L26 : Hid (MidC (wo5.heap.size) (v1.heap.size) wo21 (vap) ([(2 : Int)]) (vcp)) := by rw [hwo21]; exact (L18.out.al (by omega) (.cells #[.int .i64 4, .int .i64 3] 3))
  have L27 : Hid (MidC (wo5.heap.size) (v1.heap.size) wo21 (gap) ([1, 1]) (gcp)) := by rw [hwo21]; exact (L19.out.al (by omega) (.cells #[.int .i64 4, .int .i64 3] 3))
  have L28 : Hid (MidC (v1.heap.size) (v1.heap.size + 1) wo21 (some ⟨v1.heap.size, 0, none⟩) ([4, 3]) (2)) := by rw [hwo21]; exact n20
  have hb29 : Hid (Below w.heap.size w wo21) := by rw [hwo21]; exact (hb17.out.alloc (by omega) (.cells #[.int .i64 4, .int .i64 3] 3))
  have zwo21 : w.heap.size ≤ wo21.heap.size := hb29.out.size
  clear hwo21 n20 hb17 B13 B14 B15 L18 L19
  refine (vec_c (some ⟨v1.heap.size, 0, none⟩) 2 [4, 3] (by simp) _ (L28.out.is (by omega)).1).mono ?_
  rintro e v2 ⟨vaq, vcq, gaq, gcq, rfl, hVq, hGq, hB⟩
  have z30 : wo21.heap.size ≤ v2.heap.size := hB.size
  have B31 : Hid (Abx v2 (w.heap.size) (.bool false) (.slice (some ⟨b1, o1, none⟩) sz1.length sc1) (.slice da1 dz1.length dc1)) := B23.out.go hB
  have B32 : Hid (Abx v2 (w.heap.size + 1) (.bool false) (.slice (some ⟨b2, o2, none⟩) sz2.length sc2) (.slice da2 dz2.length dc2)) := B24.out.go hB
  have B33 : Hid (Abx v2 (w.heap.size + 1 + 1) (.bool false) (.slice (some ⟨b3, o3, none⟩) sz3.length sc3) (.slice da3 dz3.length dc3)) := B25.out.go hB
  have L34 : Hid (MidC (wo5.heap.size) (v1.heap.size) v2 (vap) ([(2 : Int)]) (vcp)) := L26.out.go (by omega) hB
  have L35 : Hid (MidC (wo5.heap.size) (v1.heap.size) v2 (gap) ([1, 1]) (gcp)) := L27.out.go (by omega) hB
  have L36 : Hid (MidC (v1.heap.size) (v1.heap.size + 1) v2 (some ⟨v1.heap.size, 0, none⟩) ([4, 3]) (2)) := L28.out.go (by omega) hB
  have hb37 : Hid (Below w.heap.size w v2) := hb29.out.trans (hB.mono hb29.out.size)
  have L38 : Hid (MidC (wo21.heap.size) (v2.heap.size) v2 (vaq) ([(2 : Int)]) (vcq)) := hVq.midc
  have L39 : Hid (MidC (wo21.heap.size) (v2.heap.size) v2 (gaq) ([4, 3]) (gcq)) := hGq.midc
  clear hB hb29 B23 B24 B25 L26 L27 L28 hVq hGq
  clear L36
  go_wp2_with fail
  refine (niw_ok 1 3 false vap vcp [(2 : Int)] 1 rfl gap gcp [1, 1] 2 rfl false vaq vcq [(2 : Int)] 1 rfl gaq gcq [4, 3] 2 rfl _ (by unfold In64; decide) (by unfold In64; decide) (by decide) (by decide) (L34.out.is (by omega)) (L35.out.is (by omega)).1 (lit12 (by decide)) (by decide) (by decide) (L38.out.is (by omega)) (L39.out.is (by omega)).1 (lit12 (by decide)) [] [7] HNi (by show inE 1 3 false [(2 : Int)] [1, 1] false [(2 : Int)] [4, 3] = 0 ∧ inS [(2 : Int)] [(2 : Int)] = [] ∧ inD 1 3 false [(2 : Int)] [1, 1] false [(2 : Int)] [4, 3] = [7]; decide +kernel)).mono ?_
  rintro e v3 ⟨f1, g1, f2, g2, rfl, hX0, hY0, hB⟩
  have z40 : v2.heap.size ≤ v3.heap.size := hB.size
  have B41 : Hid (Abx v3 (w.heap.size) (.bool false) (.slice (some ⟨b1, o1, none⟩) sz1.length sc1) (.slice da1 dz1.length dc1)) := B31.out.go hB
  have B42 : Hid (Abx v3 (w.heap.size + 1) (.bool false) (.slice (some ⟨b2, o2, none⟩) sz2.length sc2) (.slice da2 dz2.length dc2)) := B32.out.go hB
  have B43 : Hid (Abx v3 (w.heap.size + 1 + 1) (.bool false) (.slice (some ⟨b3, o3, none⟩) sz3.length sc3) (.slice da3 dz3.length dc3)) := B33.out.go hB
  have L44 : Hid (MidC (wo5.heap.size) (v1.heap.size) v3 (vap) ([(2 : Int)]) (vcp)) := L34.out.go (by omega) hB
  have L45 : Hid (MidC (wo5.heap.size) (v1.heap.size) v3 (gap) ([1, 1]) (gcp)) := L35.out.go (by omega) hB
  have L46 : Hid (MidC (wo21.heap.size) (v2.heap.size) v3 (vaq) ([(2 : Int)]) (vcq)) := L38.out.go (by omega) hB
  have L47 : Hid (MidC (wo21.heap.size) (v2.heap.size) v3 (gaq) ([4, 3]) (gcq)) := L39.out.go (by omega) hB
  have hb48 : Hid (Below w.heap.size w v3) := hb37.out.trans (hB.mono hb37.out.size)
  have L49 : Hid (MidC (v2.heap.size) (v3.heap.size) v3 (f1) ([]) (g1)) := hX0.midc
  have L50 : Hid (MidC (v2.heap.size) (v3.heap.size) v3 (f2) ([7]) (g2)) := hY0.midc
  clear hB hb37 B31 B32 B33 L34 L35 L38 L39 hX0 hY0
  clear L44 L45 L46 L47
  obtain ⟨b51, ob51, rfl, _, _, _, _⟩ := L50.out.at (i := 0) (by decide)
  have n52 := Abx.new v3 (.bool false) (.slice f1 0 g1) (.slice (some ⟨b51, ob51, none⟩) 1 g2)
  have l53 := (n52).c0
  have l54 := (n52).c1
  have l55 := (n52).c2
  obtain ⟨_, _, l56e, _, _, l56, _⟩ := ((L50.out.al (by omega) (.cells #[.bool false, .slice f1 0 g1, .slice (some ⟨b51, ob51, none⟩) 1 g2] 25))).at (i := 0) (by decide)
  cases l56e
  try simp only [Nat.add_zero] at l56
  have l57 := ((B42.out.al (.cells #[.bool false, .slice f1 0 g1, .slice (some ⟨b51, ob51, none⟩) 1 g2] 25))).c0
  have l58 := ((B42.out.al (.cells #[.bool false, .slice f1 0 g1, .slice (some ⟨b51, ob51, none⟩) 1 g2] 25))).c1
  have l59 := ((B42.out.al (.cells #[.bool false, .slice f1 0 g1, .slice (some ⟨b51, ob51, none⟩) 1 g2] 25))).c2
  have l60 := ((B43.out.al (.cells #[.bool false, .slice f1 0 g1, .slice (some ⟨b51, ob51, none⟩) 1 g2] 25))).c0
  have l61 := ((B43.out.al (.cells #[.bool false, .slice f1 0 g1, .slice (some ⟨b51, ob51, none⟩) 1 g2] 25))).c1
  have l62 := ((B43.out.al (.cells #[.bool false, .slice f1 0 g1, .slice (some ⟨b51, ob51, none⟩) 1 g2] 25))).c2
  go_wp2_with fail
  obtain ⟨wo63, hwo63⟩ : ∃ wo63, wo63 = (v3.alloc (.cells #[.bool false, .slice f1 0 g1, .slice (some ⟨b51, ob51, none⟩) 1 g2] 25)) := ⟨_, rfl⟩
  rw [← hwo63]
  have z64 : v3.heap.size + 1 ≤ wo63.heap.size := by rw [hwo63]; simp only [World.size_alloc]; omega
  have B65 : Hid (Abx wo63 (w.heap.size) (.bool false) (.slice (some ⟨b1, o1, none⟩) sz1.length sc1) (.slice da1 dz1.length dc1)) := by rw [hwo63]; exact (B41.out.al (.cells #[.bool false, .slice f1 0 g1, .slice (some ⟨b51, ob51, none⟩) 1 g2] 25))
  have B66 : Hid (Abx wo63 (w.heap.size + 1) (.bool false) (.slice (some ⟨b2, o2, none⟩) sz2.length sc2) (.slice da2 dz2.length dc2)) := by rw [hwo63]; exact (B42.out.al (.cells #[.bool false, .slice f1 0 g1, .slice (some ⟨b51, ob51, none⟩) 1 g2] 25))
  have B67 : Hid (Abx wo63 (w.heap.size + 1 + 1) (.bool false) (.slice (some ⟨b3, o3, none⟩) sz3.length sc3) (.slice da3 dz3.length dc3)) := by rw [hwo63]; exact (B43.out.al (.cells #[.bool false, .slice f1 0 g1, .slice (some ⟨b51, ob51, none⟩) 1 g2] 25))
  have B68 : Hid (Abx wo63 (v3.heap.size) (.bool false) (.slice f1 0 g1) (.slice (some ⟨b51, ob51, none⟩) 1 g2)) := by rw [hwo63]; exact n52
  have L69 : Hid (MidC (v2.heap.size) (v3.heap.size) wo63 (f1) ([]) (g1)) := by rw [hwo63]; exact (L49.out.al (by omega) (.cells #[.bool false, .slice f1 0 g1, .slice (some ⟨b51, ob51, none⟩) 1 g2] 25))
  have L70 : Hid (MidC (v2.heap.size) (v3.heap.size) wo63 (some ⟨b51, ob51, none⟩) ([7]) (g2)) := by rw [hwo63]; exact (L50.out.al (by omega) (.cells #[.bool false, .slice f1 0 g1, .slice (some ⟨b51, ob51, none⟩) 1 g2] 25))
  have hb71 : Hid (Below w.heap.size w wo63) := by rw [hwo63]; exact (hb48.out.alloc (by omega) (.cells #[.bool false, .slice f1 0 g1, .slice (some ⟨b51, ob51, none⟩) 1 g2] 25))
  have zwo63 : w.heap.size ≤ wo63.heap.size := hb71.out.size
  clear hwo63 n52 l53 l54 l55 l56 l57 l58 l59 l60 l61 l62 hb48 B41 B42 B43 L49 L50
  clear L69 L70 B68
  refine (ints_any (some ⟨b2, o2, none⟩) sc2 sz2 (some ⟨b3, o3, none⟩) sc3 sz3 x21 _ _ ((HI2.out.1.1.below hb71.out).mono hb71.out.size) ((HI3.out.1.1.below hb71.out).mono hb71.out.size)).mono ?_
  rintro e v4 ⟨rfl, hB⟩
  have z72 : wo63.heap.size ≤ v4.heap.size := hB.size
  have B73 : Hid (Abx v4 (w.heap.size) (.bool false) (.slice (some ⟨b1, o1, none⟩) sz1.length sc1) (.slice da1 dz1.length dc1)) := B65.out.go hB
  have B74 : Hid (Abx v4 (w.heap.size + 1) (.bool false) (.slice (some ⟨b2, o2, none⟩) sz2.length sc2) (.slice da2 dz2.length dc2)) := B66.out.go hB
  have B75 : Hid (Abx v4 (w.heap.size + 1 + 1) (.bool false) (.slice (some ⟨b3, o3, none⟩) sz3.length sc3) (.slice da3 dz3.length dc3)) := B67.out.go hB
  have hb76 : Hid (Below w.heap.size w v4) := hb71.out.trans (hB.mono hb71.out.size)
  clear hB hb71 B65 B66 B67
  rw [eqB_true ES.out]
  have l77 := (B73.out).c0
  have l78 := (B73.out).c1
  have l79 := (B73.out).c2
  go_wp2_with fail
  clear l77 l78 l79
  refine (grid_yes 16 (by decide) false (some ⟨b1, o1, none⟩) sc1 sz1 da1 dc1 dz1 _ ((HI1.out.1.1.below hb76.out).mono hb76.out.size) G1.out).mono ?_
  rintro e v5 ⟨rfl, hB⟩
  have z80 : v4.heap.size ≤ v5.heap.size := hB.size
  have B81 : Hid (Abx v5 (w.heap.size) (.bool false) (.slice (some ⟨b1, o1, none⟩) sz1.length sc1) (.slice da1 dz1.length dc1)) := B73.out.go hB
  have B82 : Hid (Abx v5 (w.heap.size + 1) (.bool false) (.slice (some ⟨b2, o2, none⟩) sz2.length sc2) (.slice da2 dz2.length dc2)) := B74.out.go hB
  have B83 : Hid (Abx v5 (w.heap.size + 1 + 1) (.bool false) (.slice (some ⟨b3, o3, none⟩) sz3.length sc3) (.slice da3 dz3.length dc3)) := B75.out.go hB
  have hb84 : Hid (Below w.heap.size w v5) := hb76.out.trans (hB.mono hb76.out.size)
  clear hB hb76 B73 B74 B75
  have l85 := (B82.out).c0
  have l86 := (B82.out).c1
  have l87 := (B82.out).c2
  go_wp2_with fail
  clear l85 l86 l87
  refine (grid_yes 16 (by decide) false (some ⟨b2, o2, none⟩) sc2 sz2 da2 dc2 dz2 _ ((HI2.out.1.1.below hb84.out).mono hb84.out.size) G2.out).mono ?_
  rintro e v6 ⟨rfl, hB⟩
  have z88 : v5.heap.size ≤ v6.heap.size := hB.size
  have B89 : Hid (Abx v6 (w.heap.size) (.bool false) (.slice (some ⟨b1, o1, none⟩) sz1.length sc1) (.slice da1 dz1.length dc1)) := B81.out.go hB
  have B90 : Hid (Abx v6 (w.heap.size + 1) (.bool false) (.slice (some ⟨b2, o2, none⟩) sz2.length sc2) (.slice da2 dz2.length dc2)) := B82.out.go hB
  have B91 : Hid (Abx v6 (w.heap.size + 1 + 1) (.bool false) (.slice (some ⟨b3, o3, none⟩) sz3.length sc3) (.slice da3 dz3.length dc3)) := B83.out.go hB
  have hb92 : Hid (Below w.heap.size w v6) := hb84.out.trans (hB.mono hb84.out.size)
  clear hB hb84 B81 B82 B83
  have l93 := (B91.out).c0
  have l94 := (B91.out).c1
  have l95 := (B91.out).c2
  go_wp2_with fail
  clear l93 l94 l95
  refine (grid_yes 16 (by decide) false (some ⟨b3, o3, none⟩) sc3 sz3 da3 dc3 dz3 _ ((HI3.out.1.1.below hb92.out).mono hb92.out.size) G3.out).mono ?_
  rintro e v7 ⟨rfl, hB⟩
  have z96 : v6.heap.size ≤ v7.heap.size := hB.size
  have B97 : Hid (Abx v7 (w.heap.size) (.bool false) (.slice (some ⟨b1, o1, none⟩) sz1.length sc1) (.slice da1 dz1.length dc1)) := B89.out.go hB
  have B98 : Hid (Abx v7 (w.heap.size + 1) (.bool false) (.slice (some ⟨b2, o2, none⟩) sz2.length sc2) (.slice da2 dz2.length dc2)) := B90.out.go hB
  have B99 : Hid (Abx v7 (w.heap.size + 1 + 1) (.bool false) (.slice (some ⟨b3, o3, none⟩) sz3.length sc3) (.slice da3 dz3.length dc3)) := B91.out.go hB
  have hb100 : Hid (Below w.heap.size w v7) := hb92.out.trans (hB.mono hb92.out.size)
  clear hB hb92 B89 B90 B91
  have l101 := (B98.out).c0
  have l102 := (B98.out).c1
  have l103 := (B98.out).c2
  have l104 := (B99.out).c0
  have l105 := (B99.out).c1
  have l106 := (B99.out).c2
  go_wp2_with fail
  clear l101 l102 l103 l104 l105 l106
  refine (c2w_ok H2 1 false (some ⟨b2, o2, none⟩) sc2 sz2 sz2.length rfl da2 dc2 dz2 dz2.length rfl false (some ⟨b3, o3, none⟩) sc3 sz3 sz3.length rfl da3 dc3 dz3 dz3.length rfl _ (by unfold In64; decide) x21 x22 ((HI2.out.1.1.below hb100.out).mono hb100.out.size) ((HI2.out.2.1.1.below hb100.out).mono hb100.out.size) HI2.out.2.2.2 x31 x32 ((HI3.out.1.1.below hb100.out).mono hb100.out.size) ((HI3.out.2.1.1.below hb100.out).mono hb100.out.size) HI3.out.2.2.2 sz2 D0 HQ1.out).mono ?_
  rintro e v8 ⟨xa0, xc0, ya0, yc0, rfl, hX0, hY0, hB⟩
  have z107 : v7.heap.size ≤ v8.heap.size := hB.size
  have B108 : Hid (Abx v8 (w.heap.size) (.bool false) (.slice (some ⟨b1, o1, none⟩) sz1.length sc1) (.slice da1 dz1.length dc1)) := B97.out.go hB
  have B109 : Hid (Abx v8 (w.heap.size + 1) (.bool false) (.slice (some ⟨b2, o2, none⟩) sz2.length sc2) (.slice da2 dz2.length dc2)) := B98.out.go hB
  have B110 : Hid (Abx v8 (w.heap.size + 1 + 1) (.bool false) (.slice (some ⟨b3, o3, none⟩) sz3.length sc3) (.slice da3 dz3.length dc3)) := B99.out.go hB
  have hb111 : Hid (Below w.heap.size w v8) := hb100.out.trans (hB.mono hb100.out.size)
  have L112 : Hid (MidC (v7.heap.size) (v8.heap.size) v8 (xa0) (sz2) (xc0)) := hX0.midc
  have L113 : Hid (MidC (v7.heap.size) (v8.heap.size) v8 (ya0) (D0) (yc0)) := hY0.midc
  clear hB hb100 B97 B98 B99 hX0 hY0
  have n114 := Abx.new v8 (.bool false) (.slice xa0 sz2.length xc0) (.slice ya0 D0.length yc0)
  go_wp2_with fail
  obtain ⟨wo115, hwo115⟩ : ∃ wo115, wo115 = (v8.alloc (.cells #[.bool false, .slice xa0 sz2.length xc0, .slice ya0 D0.length yc0] 25)) := ⟨_, rfl⟩
  rw [← hwo115]
  have z116 : v8.heap.size + 1 ≤ wo115.heap.size := by rw [hwo115]; simp only [World.size_alloc]; omega
  have B117 : Hid (Abx wo115 (w.heap.size) (.bool false) (.slice (some ⟨b1, o1, none⟩) sz1.length sc1) (.slice da1 dz1.length dc1)) := by rw [hwo115]; exact (B108.out.al (.cells #[.bool false, .slice xa0 sz2.length xc0, .slice ya0 D0.length yc0] 25))
  have B118 : Hid (Abx wo115 (w.heap.size + 1) (.bool false) (.slice (some ⟨b2, o2, none⟩) sz2.length sc2) (.slice da2 dz2.length dc2)) := by rw [hwo115]; exact (B109.out.al (.cells #[.bool false, .slice xa0 sz2.length xc0, .slice ya0 D0.length yc0] 25))
  have B119 : Hid (Abx wo115 (w.heap.size + 1 + 1) (.bool false) (.slice (some ⟨b3, o3, none⟩) sz3.length sc3) (.slice da3 dz3.length dc3)) := by rw [hwo115]; exact (B110.out.al (.cells #[.bool false, .slice xa0 sz2.length xc0, .slice ya0 D0.length yc0] 25))
  have B120 : Hid (Abx wo115 (v8.heap.size) (.bool false) (.slice xa0 sz2.length xc0) (.slice ya0 D0.length yc0)) := by rw [hwo115]; exact n114
  have L121 : Hid (MidC (v7.heap.size) (v8.heap.size) wo115 (xa0) (sz2) (xc0)) := by rw [hwo115]; exact (L112.out.al (by omega) (.cells #[.bool false, .slice xa0 sz2.length xc0, .slice ya0 D0.length yc0] 25))
  have L122 : Hid (MidC (v7.heap.size) (v8.heap.size) wo115 (ya0) (D0) (yc0)) := by rw [hwo115]; exact (L113.out.al (by omega) (.cells #[.bool false, .slice xa0 sz2.length xc0, .slice ya0 D0.length yc0] 25))
  have hb123 : Hid (Below w.heap.size w wo115) := by rw [hwo115]; exact (hb111.out.alloc (by omega) (.cells #[.bool false, .slice xa0 sz2.length xc0, .slice ya0 D0.length yc0] 25))
  have zwo115 : w.heap.size ≤ wo115.heap.size := hb123.out.size
  clear hwo115 n114 hb111 B108 B109 B110 L112 L113
  have sx11 : wo115.cell? ⟨b1, o1 + 1, none⟩ = some (.int .i64 n1) := (hb123.out.cell (p := ⟨b1, o1 + 1, none⟩) HC1.out.1).trans HC1.out.2.2
  have sx20 : wo115.cell? ⟨b2, o2, none⟩ = some (.int .i64 m2) := (hb123.out.cell (p := ⟨b2, o2, none⟩) HC2.out.1).trans HC2.out.2.1
  have hb0 : Below wo115.heap.size wo115 wo115.drew := (Below.refl _ wo115).drew
  refine anyC_begin (fun w' => w'.cell? ⟨w.heap.size, 0, none⟩ = some (.bool false) ∧ w'.cell? ⟨w.heap.size, 1, none⟩ = some (.slice (some ⟨b1, o1, none⟩) sz1.length sc1) ∧ w'.cell? ⟨w.heap.size, 2, none⟩ = some (.slice da1 dz1.length dc1) ∧ w'.cell? ⟨w.heap.size + 1, 0, none⟩ = some (.bool false) ∧ w'.cell? ⟨w.heap.size + 1, 1, none⟩ = some (.slice (some ⟨b2, o2, none⟩) sz2.length sc2) ∧ w'.cell? ⟨w.heap.size + 1, 2, none⟩ = some (.slice da2 dz2.length dc2) ∧ w'.cell? ⟨b1, o1 + 1, none⟩ = some (.int .i64 n1) ∧ w'.cell? ⟨b2, o2, none⟩ = some (.int .i64 m2)) 9 #[false, false, false, false, false, false, false, false, false] (by kernel_rfl) rfl rfl ?_
  refine anyC_put 0 83 ?rv515 #[true, false, false, false, false, false, false, false, false] rfl rfl rfl (by kernel_rfl) (by kernel_rfl) (by kernel_rfl) (fun _ _ _ h => h) ?ry515 (⟨(B117.out.go hb0).c0, (B117.out.go hb0).c1, (B117.out.go hb0).c2, (B118.out.go hb0).c0, (B118.out.go hb0).c1, (B118.out.go hb0).c2, cell_to sx11 hb0, cell_to sx20 hb0⟩) ?rm515
  case ry515 => first | exact Or.inl ⟨by rfl, by intro w'; go_simp; first | done | rfl⟩
  case rm515 =>
  simp only [Act.put, List.setIfInBounds_toArray, List.set_cons_zero, List.set_cons_succ]
  refine anyC_take 1 84 ?rv516 #[true, true, false, false, false, false, false, false, false] rfl rfl rfl (by kernel_rfl) (by kernel_rfl) (by kernel_rfl) (fun _ _ _ h => h) ?ry516 (⟨(B117.out.go hb0).c0, (B117.out.go hb0).c1, (B117.out.go hb0).c2, (B118.out.go hb0).c0, (B118.out.go hb0).c1, (B118.out.go hb0).c2, cell_to sx11 hb0, cell_to sx20 hb0⟩) ?rm516
  case ry516 => first | exact Or.inl ⟨by rfl, by intro w' hw'; (try dsimp only at hw'); go_simp; first | done | rfl⟩
  case rm516 =>
  simp only [Act.put, List.setIfInBounds_toArray, List.set_cons_zero, List.set_cons_succ]
  refine anyC_put 2 85 ?rv517 #[true, true, true, false, false, false, false, false, false] rfl rfl rfl (by kernel_rfl) (by kernel_rfl) (by kernel_rfl) (fun _ _ _ h => h) ?ry517 (⟨(B117.out.go hb0).c0, (B117.out.go hb0).c1, (B117.out.go hb0).c2, (B118.out.go hb0).c0, (B118.out.go hb0).c1, (B118.out.go hb0).c2, cell_to sx11 hb0, cell_to sx20 hb0⟩) ?rm517
  case ry517 => first | exact Or.inl ⟨by rfl, by intro w'; go_simp; first | done | rfl⟩
  case rm517 =>
  simp only [Act.put, List.setIfInBounds_toArray, List.set_cons_zero, List.set_cons_succ]
  refine anyC_take 3 86 ?rv518 #[true, true, true, true, false, false, false, false, false] rfl rfl rfl (by kernel_rfl) (by kernel_rfl) (by kernel_rfl) (fun _ _ _ h => h) ?ry518 (⟨(B117.out.go hb0).c0, (B117.out.go hb0).c1, (B117.out.go hb0).c2, (B118.out.go hb0).c0, (B118.out.go hb0).c1, (B118.out.go hb0).c2, cell_to sx11 hb0, cell_to sx20 hb0⟩) ?rm518
  case ry518 => first | exact Or.inl ⟨by rfl, by intro w' hw'; (try dsimp only at hw'); go_simp; first | done | rfl⟩
  case rm518 =>
  simp only [Act.put, List.setIfInBounds_toArray, List.set_cons_zero, List.set_cons_succ]
  refine anyC_put 4 87 ?rv519 #[true, true, true, true, true, false, false, false, false] rfl rfl rfl (by kernel_rfl) (by kernel_rfl) (by kernel_rfl) (fun _ _ _ h => h) ?ry519 (⟨(B117.out.go hb0).c0, (B117.out.go hb0).c1, (B117.out.go hb0).c2, (B118.out.go hb0).c0, (B118.out.go hb0).c1, (B118.out.go hb0).c2, cell_to sx11 hb0, cell_to sx20 hb0⟩) ?rm519
  case ry519 => first | exact Or.inl ⟨by rfl, by intro w'; go_simp; first | done | rfl⟩
  case rm519 =>
  simp only [Act.put, List.setIfInBounds_toArray, List.set_cons_zero, List.set_cons_succ]
  refine anyC_take 5 88 ?rv520 #[true, true, true, true, true, true, false, false, false] rfl rfl rfl (by kernel_rfl) (by kernel_rfl) (by kernel_rfl) (fun _ _ _ h => h) ?ry520 (⟨(B117.out.go hb0).c0, (B117.out.go hb0).c1, (B117.out.go hb0).c2, (B118.out.go hb0).c0, (B118.out.go hb0).c1, (B118.out.go hb0).c2, cell_to sx11 hb0, cell_to sx20 hb0⟩) ?rm520
  case ry520 => first | exact Or.inl ⟨by rfl, by intro w' hw'; (try dsimp only at hw'); go_simp; first | done | rfl⟩
  case rm520 =>
  simp only [Act.put, List.setIfInBounds_toArray, List.set_cons_zero, List.set_cons_succ]
  refine anyC_put 6 89 ?rv521 #[true, true, true, true, true, true, true, false, false] rfl rfl rfl (by kernel_rfl) (by kernel_rfl) (by kernel_rfl) (fun _ _ _ h => h) ?ry521 (⟨(B117.out.go hb0).c0, (B117.out.go hb0).c1, (B117.out.go hb0).c2, (B118.out.go hb0).c0, (B118.out.go hb0).c1, (B118.out.go hb0).c2, cell_to sx11 hb0, cell_to sx20 hb0⟩) ?rm521
  case ry521 => first | exact Or.inl ⟨by rfl, by intro w'; go_simp; first | done | rfl⟩
  case rm521 =>
  simp only [Act.put, List.setIfInBounds_toArray, List.set_cons_zero, List.set_cons_succ]
  refine anyC_take 7 90 ?rv522 #[true, true, true, true, true, true, true, true, false] rfl rfl rfl (by kernel_rfl) (by kernel_rfl) (by kernel_rfl) (fun _ _ _ h => h) ?ry522 (⟨(B117.out.go hb0).c0, (B117.out.go hb0).c1, (B117.out.go hb0).c2, (B118.out.go hb0).c0, (B118.out.go hb0).c1, (B118.out.go hb0).c2, cell_to sx11 hb0, cell_to sx20 hb0⟩) ?rm522
  case ry522 => first | exact Or.inl ⟨by rfl, by intro w' hw'; (try dsimp only at hw'); go_simp; first | done | rfl⟩
  case rm522 =>
  simp only [Act.put, List.setIfInBounds_toArray, List.set_cons_zero, List.set_cons_succ]
  refine anyC_put 8 91 ?rv523 #[true, true, true, true, true, true, true, true, true] rfl rfl rfl (by kernel_rfl) (by kernel_rfl) (by kernel_rfl) (fun _ _ _ h => h) ?ry523 (⟨(B117.out.go hb0).c0, (B117.out.go hb0).c1, (B117.out.go hb0).c2, (B118.out.go hb0).c0, (B118.out.go hb0).c1, (B118.out.go hb0).c2, cell_to sx11 hb0, cell_to sx20 hb0⟩) ?rm523
  case ry523 => first | exact Or.inl ⟨by rfl, by intro w'; go_simp; first | done | rfl⟩
  case rm523 =>
  simp only [Act.put, List.setIfInBounds_toArray, List.set_cons_zero, List.set_cons_succ]
  refine anyC_done (by kernel_rfl) ?_
  have hB := hb0
  have z124 : wo115.heap.size ≤ wo115.drew.heap.size := hB.size
  have B125 : Hid (Abx wo115.drew (w.heap.size) (.bool false) (.slice (some ⟨b1, o1, none⟩) sz1.length sc1) (.slice da1 dz1.length dc1)) := B117.out.go hB
  have B126 : Hid (Abx wo115.drew (w.heap.size + 1) (.bool false) (.slice (some ⟨b2, o2, none⟩) sz2.length sc2) (.slice da2 dz2.length dc2)) := B118.out.go hB
  have B127 : Hid (Abx wo115.drew (w.heap.size + 1 + 1) (.bool false) (.slice (some ⟨b3, o3, none⟩) sz3.length sc3) (.slice da3 dz3.length dc3)) := B119.out.go hB
  have B128 : Hid (Abx wo115.drew (v8.heap.size) (.bool false) (.slice xa0 sz2.length xc0) (.slice ya0 D0.length yc0)) := B120.out.go hB
  have L129 : Hid (MidC (v7.heap.size) (v8.heap.size) wo115.drew (xa0) (sz2) (xc0)) := L121.out.go (by omega) hB
  have L130 : Hid (MidC (v7.heap.size) (v8.heap.size) wo115.drew (ya0) (D0) (yc0)) := L122.out.go (by omega) hB
  have hb131 : Hid (Below w.heap.size w wo115.drew) := hb123.out.trans (hB.mono hb123.out.size)
  clear hB hb123 B117 B118 B119 B120 L121 L122
  have l132 := (B125.out).c0
  have l133 := (B125.out).c1
  have l134 := (B125.out).c2
  have l135 := (B128.out).c0
  have l136 := (B128.out).c1
  have l137 := (B128.out).c2
  go_wp2_with fail
  clear l132 l133 l134 l135 l136 l137
  refine (niw_ok 1 3 false (some ⟨b1, o1, none⟩) sc1 sz1 sz1.length rfl da1 dc1 dz1 dz1.length rfl false xa0 xc0 sz2 sz2.length rfl ya0 yc0 D0 D0.length rfl _ (by unfold In64; decide) (by unfold In64; decide) x11 x12 ((HI1.out.1.below hb131.out).mono hb131.out.size) ((HI1.out.2.1.1.below hb131.out).mono hb131.out.size) HI1.out.2.2.2 (by omega) (by omega) (L129.out.is (by omega)) (L130.out.is (by omega)).1 HQ2.out S DX HNi HR1.out).mono ?_
  rintro e v9 ⟨xa51, xc51, ya51, yc51, rfl, hX51, hY51, hB⟩
  have z138 : wo115.drew.heap.size ≤ v9.heap.size := hB.size
  have B139 : Hid (Abx v9 (w.heap.size) (.bool false) (.slice (some ⟨b1, o1, none⟩) sz1.length sc1) (.slice da1 dz1.length dc1)) := B125.out.go hB
  have B140 : Hid (Abx v9 (w.heap.size + 1) (.bool false) (.slice (some ⟨b2, o2, none⟩) sz2.length sc2) (.slice da2 dz2.length dc2)) := B126.out.go hB
  have B141 : Hid (Abx v9 (w.heap.size + 1 + 1) (.bool false) (.slice (some ⟨b3, o3, none⟩) sz3.length sc3) (.slice da3 dz3.length dc3)) := B127.out.go hB
  have B142 : Hid (Abx v9 (v8.heap.size) (.bool false) (.slice xa0 sz2.length xc0) (.slice ya0 D0.length yc0)) := B128.out.go hB
  have L143 : Hid (MidC (v7.heap.size) (v8.heap.size) v9 (xa0) (sz2) (xc0)) := L129.out.go (by omega) hB
  have L144 : Hid (MidC (v7.heap.size) (v8.heap.size) v9 (ya0) (D0) (yc0)) := L130.out.go (by omega) hB
  have hb145 : Hid (Below w.heap.size w v9) := hb131.out.trans (hB.mono hb131.out.size)
  have L146 : Hid (MidC (wo115.drew.heap.size) (v9.heap.size) v9 (xa51) (S) (xc51)) := hX51.midc
  have L147 : Hid (MidC (wo115.drew.heap.size) (v9.heap.size) v9 (ya51) (DX) (yc51)) := hY51.midc
  clear hB hb131 B125 B126 B127 B128 L129 L130 hX51 hY51
  have n148 := Abx.new v9 (.bool false) (.slice xa51 S.length xc51) (.slice ya51 DX.length yc51)
  have l149 := ((B139.out.al (.cells #[.bool false, .slice xa51 S.length xc51, .slice ya51 DX.length yc51] 25))).c0
  have l150 := ((B139.out.al (.cells #[.bool false, .slice xa51 S.length xc51, .slice ya51 DX.length yc51] 25))).c1
  have l151 := ((B139.out.al (.cells #[.bool false, .slice xa51 S.length xc51, .slice ya51 DX.length yc51] 25))).c2
  have l152 := ((B140.out.al (.cells #[.bool false, .slice xa51 S.length xc51, .slice ya51 DX.length yc51] 25))).c0
  have l153 := ((B140.out.al (.cells #[.bool false, .slice xa51 S.length xc51, .slice ya51 DX.length yc51] 25))).c1
  have l154 := ((B140.out.al (.cells #[.bool false, .slice xa51 S.length xc51, .slice ya51 DX.length yc51] 25))).c2
  go_wp2_with fail
  obtain ⟨wo155, hwo155⟩ : ∃ wo155, wo155 = (v9.alloc (.cells #[.bool false, .slice xa51 S.length xc51, .slice ya51 DX.length yc51] 25)) := ⟨_, rfl⟩
  rw [← hwo155]
  have z156 : v9.heap.size + 1 ≤ wo155.heap.size := by rw [hwo155]; simp only [World.size_alloc]; omega
  have B157 : Hid (Abx wo155 (w.heap.size) (.bool false) (.slice (some ⟨b1, o1, none⟩) sz1.length sc1) (.slice da1 dz1.length dc1)) := by rw [hwo155]; exact (B139.out.al (.cells #[.bool false, .slice xa51 S.length xc51, .slice ya51 DX.length yc51] 25))
  have B158 : Hid (Abx wo155 (w.heap.size + 1) (.bool false) (.slice (some ⟨b2, o2, none⟩) sz2.length sc2) (.slice da2 dz2.length dc2)) := by rw [hwo155]; exact (B140.out.al (.cells #[.bool false, .slice xa51 S.length xc51, .slice ya51 DX.length yc51] 25))
  have B159 : Hid (Abx wo155 (w.heap.size + 1 + 1) (.bool false) (.slice (some ⟨b3, o3, none⟩) sz3.length sc3) (.slice da3 dz3.length dc3)) := by rw [hwo155]; exact (B141.out.al (.cells #[.bool false, .slice xa51 S.length xc51, .slice ya51 DX.length yc51] 25))
  have B160 : Hid (Abx wo155 (v8.heap.size) (.bool false) (.slice xa0 sz2.length xc0) (.slice ya0 D0.length yc0)) := by rw [hwo155]; exact (B142.out.al (.cells #[.bool false, .slice xa51 S.length xc51, .slice ya51 DX.length yc51] 25))
  have B161 : Hid (Abx wo155 (v9.heap.size) (.bool false) (.slice xa51 S.length xc51) (.slice ya51 DX.length yc51)) := by rw [hwo155]; exact n148
  have L162 : Hid (MidC (v7.heap.size) (v8.heap.size) wo155 (xa0) (sz2) (xc0)) := by rw [hwo155]; exact (L143.out.al (by omega) (.cells #[.bool false, .slice xa51 S.length xc51, .slice ya51 DX.length yc51] 25))
  have L163 : Hid (MidC (v7.heap.size) (v8.heap.size) wo155 (ya0) (D0) (yc0)) := by rw [hwo155]; exact (L144.out.al (by omega) (.cells #[.bool false, .slice xa51 S.length xc51, .slice ya51 DX.length yc51] 25))
  have L164 : Hid (MidC (wo115.drew.heap.size) (v9.heap.size) wo155 (xa51) (S) (xc51)) := by rw [hwo155]; exact (L146.out.al (by omega) (.cells #[.bool false, .slice xa51 S.length xc51, .slice ya51 DX.length yc51] 25))
  have L165 : Hid (MidC (wo115.drew.heap.size) (v9.heap.size) wo155 (ya51) (DX) (yc51)) := by rw [hwo155]; exact (L147.out.al (by omega) (.cells #[.bool false, .slice xa51 S.length xc51, .slice ya51 DX.length yc51] 25))
  have hb166 : Hid (Below w.heap.size w wo155) := by rw [hwo155]; exact (hb145.out.alloc (by omega) (.cells #[.bool false, .slice xa51 S.length xc51, .slice ya51 DX.length yc51] 25))
  have zwo155 : w.heap.size ≤ wo155.heap.size := hb166.out.size
  clear hwo155 n148 l149 l150 l151 l152 l153 l154 hb145 B139 B140 B141 B142 L143 L144 L146 L147
  refine (niw_ok 1 3 false (some ⟨b1, o1, none⟩) sc1 sz1 sz1.length rfl da1 dc1 dz1 dz1.length rfl false (some ⟨b2, o2, none⟩) sc2 sz2 sz2.length rfl da2 dc2 dz2 dz2.length rfl _ (by unfold In64; decide) (by unfold In64; decide) x11 x12 ((HI1.out.1.below hb166.out).mono hb166.out.size) ((HI1.out.2.1.1.below hb166.out).mono hb166.out.size) HI1.out.2.2.2 x21 x22 ((HI2.out.1.below hb166.out).mono hb166.out.size) ((HI2.out.2.1.1.below hb166.out).mono hb166.out.size) HI2.out.2.2.2 S DP HNi HR2.out).mono ?_
  rintro e v10 ⟨xa52, xc52, ya52, yc52, rfl, hX52, hY52, hB⟩
  have z167 : wo155.heap.size ≤ v10.heap.size := hB.size
  have B168 : Hid (Abx v10 (w.heap.size) (.bool false) (.slice (some ⟨b1, o1, none⟩) sz1.length sc1) (.slice da1 dz1.length dc1)) := B157.out.go hB
  have B169 : Hid (Abx v10 (w.heap.size + 1) (.bool false) (.slice (some ⟨b2, o2, none⟩) sz2.length sc2) (.slice da2 dz2.length dc2)) := B158.out.go hB
  have B170 : Hid (Abx v10 (w.heap.size + 1 + 1) (.bool false) (.slice (some ⟨b3, o3, none⟩) sz3.length sc3) (.slice da3 dz3.length dc3)) := B159.out.go hB
  have B171 : Hid (Abx v10 (v8.heap.size) (.bool false) (.slice xa0 sz2.length xc0) (.slice ya0 D0.length yc0)) := B160.out.go hB
  have B172 : Hid (Abx v10 (v9.heap.size) (.bool false) (.slice xa51 S.length xc51) (.slice ya51 DX.length yc51)) := B161.out.go hB
  have L173 : Hid (MidC (v7.heap.size) (v8.heap.size) v10 (xa0) (sz2) (xc0)) := L162.out.go (by omega) hB
  have L174 : Hid (MidC (v7.heap.size) (v8.heap.size) v10 (ya0) (D0) (yc0)) := L163.out.go (by omega) hB
  have L175 : Hid (MidC (wo115.drew.heap.size) (v9.heap.size) v10 (xa51) (S) (xc51)) := L164.out.go (by omega) hB
  have L176 : Hid (MidC (wo115.drew.heap.size) (v9.heap.size) v10 (ya51) (DX) (yc51)) := L165.out.go (by omega) hB
  have hb177 : Hid (Below w.heap.size w v10) := hb166.out.trans (hB.mono hb166.out.size)
  have L178 : Hid (MidC (wo155.heap.size) (v10.heap.size) v10 (xa52) (S) (xc52)) := hX52.midc
  have L179 : Hid (MidC (wo155.heap.size) (v10.heap.size) v10 (ya52) (DP) (yc52)) := hY52.midc
  clear hB hb166 B157 B158 B159 B160 B161 L162 L163 L164 L165 hX52 hY52
  have n180 := Abx.new v10 (.bool false) (.slice xa52 S.length xc52) (.slice ya52 DP.length yc52)
  have l181 := ((B168.out.al (.cells #[.bool false, .slice xa52 S.length xc52, .slice ya52 DP.length yc52] 25))).c0
  have l182 := ((B168.out.al (.cells #[.bool false, .slice xa52 S.length xc52, .slice ya52 DP.length yc52] 25))).c1
  have l183 := ((B168.out.al (.cells #[.bool false, .slice xa52 S.length xc52, .slice ya52 DP.length yc52] 25))).c2
  have l184 := ((B170.out.al (.cells #[.bool false, .slice xa52 S.length xc52, .slice ya52 DP.length yc52] 25))).c0
  have l185 := ((B170.out.al (.cells #[.bool false, .slice xa52 S.length xc52, .slice ya52 DP.length yc52] 25))).c1
  have l186 := ((B170.out.al (.cells #[.bool false, .slice xa52 S.length xc52, .slice ya52 DP.length yc52] 25))).c2
  go_wp2_with fail
  obtain ⟨wo187, hwo187⟩ : ∃ wo187, wo187 = (v10.alloc (.cells #[.bool false, .slice xa52 S.length xc52, .slice ya52 DP.length yc52] 25)) := ⟨_, rfl⟩
  rw [← hwo187]
  have z188 : v10.heap.size + 1 ≤ wo187.heap.size := by rw [hwo187]; simp only [World.size_alloc]; omega
  have B189 : Hid (Abx wo187 (w.heap.size) (.bool false) (.slice (some ⟨b1, o1, none⟩) sz1.length sc1) (.slice da1 dz1.length dc1)) := by rw [hwo187]; exact (B168.out.al (.cells #[.bool false, .slice xa52 S.length xc52, .slice ya52 DP.length yc52] 25))
  have B190 : Hid (Abx wo187 (w.heap.size + 1) (.bool false) (.slice (some ⟨b2, o2, none⟩) sz2.length sc2) (.slice da2 dz2.length dc2)) := by rw [hwo187]; exact (B169.out.al (.cells #[.bool false, .slice xa52 S.length xc52, .slice ya52 DP.length yc52] 25))
  have B191 : Hid (Abx wo187 (w.heap.size + 1 + 1) (.bool false) (.slice (some ⟨b3, o3, none⟩) sz3.length sc3) (.slice da3 dz3.length dc3)) := by rw [hwo187]; exact (B170.out.al (.cells #[.bool false, .slice xa52 S.length xc52, .slice ya52 DP.length yc52] 25))
  have B192 : Hid (Abx wo187 (v8.heap.size) (.bool false) (.slice xa0 sz2.length xc0) (.slice ya0 D0.length yc0)) := by rw [hwo187]; exact (B171.out.al (.cells #[.bool false, .slice xa52 S.length xc52, .slice ya52 DP.length yc52] 25))
  have B193 : Hid (Abx wo187 (v9.heap.size) (.bool false) (.slice xa51 S.length xc51) (.slice ya51 DX.length yc51)) := by rw [hwo187]; exact (B172.out.al (.cells #[.bool false, .slice xa52 S.length xc52, .slice ya52 DP.length yc52] 25))
  have B194 : Hid (Abx wo187 (v10.heap.size) (.bool false) (.slice xa52 S.length xc52) (.slice ya52 DP.length yc52)) := by rw [hwo187]; exact n180
  have L195 : Hid (MidC (v7.heap.size) (v8.heap.size) wo187 (xa0) (sz2) (xc0)) := by rw [hwo187]; exact (L173.out.al (by omega) (.cells #[.bool false, .slice xa52 S.length xc52, .slice ya52 DP.length yc52] 25))
  have L196 : Hid (MidC (v7.heap.size) (v8.heap.size) wo187 (ya0) (D0) (yc0)) := by rw [hwo187]; exact (L174.out.al (by omega) (.cells #[.bool false, .slice xa52 S.length xc52, .slice ya52 DP.length yc52] 25))
  have L197 : Hid (MidC (wo115.drew.heap.size) (v9.heap.size) wo187 (xa51) (S) (xc51)) := by rw [hwo187]; exact (L175.out.al (by omega) (.cells #[.bool false, .slice xa52 S.length xc52, .slice ya52 DP.length yc52] 25))
  have L198 : Hid (MidC (wo115.drew.heap.size) (v9.heap.size) wo187 (ya51) (DX) (yc51)) := by rw [hwo187]; exact (L176.out.al (by omega) (.cells #[.bool false, .slice xa52 S.length xc52, .slice ya52 DP.length yc52] 25))
  have L199 : Hid (MidC (wo155.heap.size) (v10.heap.size) wo187 (xa52) (S) (xc52)) := by rw [hwo187]; exact (L178.out.al (by omega) (.cells #[.bool false, .slice xa52 S.length xc52, .slice ya52 DP.length yc52] 25))
  have L200 : Hid (MidC (wo155.heap.size) (v10.heap.size) wo187 (ya52) (DP) (yc52)) := by rw [hwo187]; exact (L179.out.al (by omega) (.cells #[.bool false, .slice xa52 S.length xc52, .slice ya52 DP.length yc52] 25))
  have hb201 : Hid (Below w.heap.size w wo187) := by rw [hwo187]; exact (hb177.out.alloc (by omega) (.cells #[.bool false, .slice xa52 S.length xc52, .slice ya52 DP.length yc52] 25))
  have zwo187 : w.heap.size ≤ wo187.heap.size := hb201.out.size
  clear hwo187 n180 l181 l182 l183 l184 l185 l186 hb177 B168 B169 B170 B171 B172 L173 L174 L175 L176 L178 L179
  refine (niw_ok 1 3 false (some ⟨b1, o1, none⟩) sc1 sz1 sz1.length rfl da1 dc1 dz1 dz1.length rfl false (some ⟨b3, o3, none⟩) sc3 sz3 sz3.length rfl da3 dc3 dz3 dz3.length rfl _ (by unfold In64; decide) (by unfold In64; decide) x11 x12 ((HI1.out.1.below hb201.out).mono hb201.out.size) ((HI1.out.2.1.1.below hb201.out).mono hb201.out.size) HI1.out.2.2.2 x31 x32 ((HI3.out.1.below hb201.out).mono hb201.out.size) ((HI3.out.2.1.1.below hb201.out).mono hb201.out.size) HI3.out.2.2.2 S DQ HNi HR3.out).mono ?_
  rintro e v11 ⟨xa53, xc53, ya53, yc53, rfl, hX53, hY53, hB⟩
  have z202 : wo187.heap.size ≤ v11.heap.size := hB.size
  have B203 : Hid (Abx v11 (w.heap.size) (.bool false) (.slice (some ⟨b1, o1, none⟩) sz1.length sc1) (.slice da1 dz1.length dc1)) := B189.out.go hB
  have B204 : Hid (Abx v11 (w.heap.size + 1) (.bool false) (.slice (some ⟨b2, o2, none⟩) sz2.length sc2) (.slice da2 dz2.length dc2)) := B190.out.go hB
  have B205 : Hid (Abx v11 (w.heap.size + 1 + 1) (.bool false) (.slice (some ⟨b3, o3, none⟩) sz3.length sc3) (.slice da3 dz3.length dc3)) := B191.out.go hB
  have B206 : Hid (Abx v11 (v8.heap.size) (.bool false) (.slice xa0 sz2.length xc0) (.slice ya0 D0.length yc0)) := B192.out.go hB
  have B207 : Hid (Abx v11 (v9.heap.size) (.bool false) (.slice xa51 S.length xc51) (.slice ya51 DX.length yc51)) := B193.out.go hB
  have B208 : Hid (Abx v11 (v10.heap.size) (.bool false) (.slice xa52 S.length xc52) (.slice ya52 DP.length yc52)) := B194.out.go hB
  have L209 : Hid (MidC (v7.heap.size) (v8.heap.size) v11 (xa0) (sz2) (xc0)) := L195.out.go (by omega) hB
  have L210 : Hid (MidC (v7.heap.size) (v8.heap.size) v11 (ya0) (D0) (yc0)) := L196.out.go (by omega) hB
  have L211 : Hid (MidC (wo115.drew.heap.size) (v9.heap.size) v11 (xa51) (S) (xc51)) := L197.out.go (by omega) hB
  have L212 : Hid (MidC (wo115.drew.heap.size) (v9.heap.size) v11 (ya51) (DX) (yc51)) := L198.out.go (by omega) hB
  have L213 : Hid (MidC (wo155.heap.size) (v10.heap.size) v11 (xa52) (S) (xc52)) := L199.out.go (by omega) hB
  have L214 : Hid (MidC (wo155.heap.size) (v10.heap.size) v11 (ya52) (DP) (yc52)) := L200.out.go (by omega) hB
  have hb215 : Hid (Below w.heap.size w v11) := hb201.out.trans (hB.mono hb201.out.size)
  have L216 : Hid (MidC (wo187.heap.size) (v11.heap.size) v11 (xa53) (S) (xc53)) := hX53.midc
  have L217 : Hid (MidC (wo187.heap.size) (v11.heap.size) v11 (ya53) (DQ) (yc53)) := hY53.midc
  clear hB hb201 B189 B190 B191 B192 B193 B194 L195 L196 L197 L198 L199 L200 hX53 hY53
  have n218 := Abx.new v11 (.bool false) (.slice xa53 S.length xc53) (.slice ya53 DQ.length yc53)
  have l219 := ((B208.out.al (.cells #[.bool false, .slice xa53 S.length xc53, .slice ya53 DQ.length yc53] 25))).c0
  have l220 := ((B208.out.al (.cells #[.bool false, .slice xa53 S.length xc53, .slice ya53 DQ.length yc53] 25))).c1
  have l221 := ((B208.out.al (.cells #[.bool false, .slice xa53 S.length xc53, .slice ya53 DQ.length yc53] 25))).c2
  have l222 := (n218).c0
  have l223 := (n218).c1
  have l224 := (n218).c2
  go_wp2_with fail
  obtain ⟨wo225, hwo225⟩ : ∃ wo225, wo225 = (v11.alloc (.cells #[.bool false, .slice xa53 S.length xc53, .slice ya53 DQ.length yc53] 25)) := ⟨_, rfl⟩
  rw [← hwo225]
  have z226 : v11.heap.size + 1 ≤ wo225.heap.size := by rw [hwo225]; simp only [World.size_alloc]; omega
  have B227 : Hid (Abx wo225 (w.heap.size) (.bool false) (.slice (some ⟨b1, o1, none⟩) sz1.length sc1) (.slice da1 dz1.length dc1)) := by rw [hwo225]; exact (B203.out.al (.cells #[.bool false, .slice xa53 S.length xc53, .slice ya53 DQ.length yc53] 25))
  have B228 : Hid (Abx wo225 (w.heap.size + 1) (.bool false) (.slice (some ⟨b2, o2, none⟩) sz2.length sc2) (.slice da2 dz2.length dc2)) := by rw [hwo225]; exact (B204.out.al (.cells #[.bool false, .slice xa53 S.length xc53, .slice ya53 DQ.length yc53] 25))
  have B229 : Hid (Abx wo225 (w.heap.size + 1 + 1) (.bool false) (.slice (some ⟨b3, o3, none⟩) sz3.length sc3) (.slice da3 dz3.length dc3)) := by rw [hwo225]; exact (B205.out.al (.cells #[.bool false, .slice xa53 S.length xc53, .slice ya53 DQ.length yc53] 25))
  have B230 : Hid (Abx wo225 (v8.heap.size) (.bool false) (.slice xa0 sz2.length xc0) (.slice ya0 D0.length yc0)) := by rw [hwo225]; exact (B206.out.al (.cells #[.bool false, .slice xa53 S.length xc53, .slice ya53 DQ.length yc53] 25))
  have B231 : Hid (Abx wo225 (v9.heap.size) (.bool false) (.slice xa51 S.length xc51) (.slice ya51 DX.length yc51)) := by rw [hwo225]; exact (B207.out.al (.cells #[.bool false, .slice xa53 S.length xc53, .slice ya53 DQ.length yc53] 25))
  have B232 : Hid (Abx wo225 (v10.heap.size) (.bool false) (.slice xa52 S.length xc52) (.slice ya52 DP.length yc52)) := by rw [hwo225]; exact (B208.out.al (.cells #[.bool false, .slice xa53 S.length xc53, .slice ya53 DQ.length yc53] 25))
  have B233 : Hid (Abx wo225 (v11.heap.size) (.bool false) (.slice xa53 S.length xc53) (.slice ya53 DQ.length yc53)) := by rw [hwo225]; exact n218
  have L234 : Hid (MidC (v7.heap.size) (v8.heap.size) wo225 (xa0) (sz2) (xc0)) := by rw [hwo225]; exact (L209.out.al (by omega) (.cells #[.bool false, .slice xa53 S.length xc53, .slice ya53 DQ.length yc53] 25))
  have L235 : Hid (MidC (v7.heap.size) (v8.heap.size) wo225 (ya0) (D0) (yc0)) := by rw [hwo225]; exact (L210.out.al (by omega) (.cells #[.bool false, .slice xa53 S.length xc53, .slice ya53 DQ.length yc53] 25))
  have L236 : Hid (MidC (wo115.drew.heap.size) (v9.heap.size) wo225 (xa51) (S) (xc51)) := by rw [hwo225]; exact (L211.out.al (by omega) (.cells #[.bool false, .slice xa53 S.length xc53, .slice ya53 DQ.length yc53] 25))
  have L237 : Hid (MidC (wo115.drew.heap.size) (v9.heap.size) wo225 (ya51) (DX) (yc51)) := by rw [hwo225]; exact (L212.out.al (by omega) (.cells #[.bool false, .slice xa53 S.length xc53, .slice ya53 DQ.length yc53] 25))
  have L238 : Hid (MidC (wo155.heap.size) (v10.heap.size) wo225 (xa52) (S) (xc52)) := by rw [hwo225]; exact (L213.out.al (by omega) (.cells #[.bool false, .slice xa53 S.length xc53, .slice ya53 DQ.length yc53] 25))
  have L239 : Hid (MidC (wo155.heap.size) (v10.heap.size) wo225 (ya52) (DP) (yc52)) := by rw [hwo225]; exact (L214.out.al (by omega) (.cells #[.bool false, .slice xa53 S.length xc53, .slice ya53 DQ.length yc53] 25))
  have L240 : Hid (MidC (wo187.heap.size) (v11.heap.size) wo225 (xa53) (S) (xc53)) := by rw [hwo225]; exact (L216.out.al (by omega) (.cells #[.bool false, .slice xa53 S.length xc53, .slice ya53 DQ.length yc53] 25))
  have L241 : Hid (MidC (wo187.heap.size) (v11.heap.size) wo225 (ya53) (DQ) (yc53)) := by rw [hwo225]; exact (L217.out.al (by omega) (.cells #[.bool false, .slice xa53 S.length xc53, .slice ya53 DQ.length yc53] 25))
  have hb242 : Hid (Below w.heap.size w wo225) := by rw [hwo225]; exact (hb215.out.alloc (by omega) (.cells #[.bool false, .slice xa53 S.length xc53, .slice ya53 DQ.length yc53] 25))
  have zwo225 : w.heap.size ≤ wo225.heap.size := hb242.out.size
  clear hwo225 n218 l219 l220 l221 l222 l223 l224 hb215 B203 B204 B205 B206 B207 B208 L209 L210 L211 L212 L213 L214 L216 L217
  refine (c2w_ok H2 1 false xa52 xc52 S S.length rfl ya52 yc52 DP DP.length rfl false xa53 xc53 S S.length rfl ya53 yc53 DQ DQ.length rfl _ (by unfold In64; decide) (by omega) (by omega) (L238.out.is (by omega)).1 (L239.out.is (by omega)).1 HTT.out.1 (by omega) (by omega) (L240.out.is (by omega)).1 (L241.out.is (by omega)).1 HTT.out.2 S DX HR4.out).mono ?_
  rintro e v12 ⟨xa54, xc54, ya54, yc54, rfl, hX54, hY54, hB⟩
  have z243 : wo225.heap.size ≤ v12.heap.size := hB.size
  have B244 : Hid (Abx v12 (w.heap.size) (.bool false) (.slice (some ⟨b1, o1, none⟩) sz1.length sc1) (.slice da1 dz1.length dc1)) := B227.out.go hB
  have B245 : Hid (Abx v12 (w.heap.size + 1) (.bool false) (.slice (some ⟨b2, o2, none⟩) sz2.length sc2) (.slice da2 dz2.length dc2)) := B228.out.go hB
  have B246 : Hid (Abx v12 (w.heap.size + 1 + 1) (.bool false) (.slice (some ⟨b3, o3, none⟩) sz3.length sc3) (.slice da3 dz3.length dc3)) := B229.out.go hB
  have B247 : Hid (Abx v12 (v8.heap.size) (.bool false) (.slice xa0 sz2.length xc0) (.slice ya0 D0.length yc0)) := B230.out.go hB
  have B248 : Hid (Abx v12 (v9.heap.size) (.bool false) (.slice xa51 S.length xc51) (.slice ya51 DX.length yc51)) := B231.out.go hB
  have B249 : Hid (Abx v12 (v10.heap.size) (.bool false) (.slice xa52 S.length xc52) (.slice ya52 DP.length yc52)) := B232.out.go hB
  have B250 : Hid (Abx v12 (v11.heap.size) (.bool false) (.slice xa53 S.length xc53) (.slice ya53 DQ.length yc53)) := B233.out.go hB
  have L251 : Hid (MidC (v7.heap.size) (v8.heap.size) v12 (xa0) (sz2) (xc0)) := L234.out.go (by omega) hB
  have L252 : Hid (MidC (v7.heap.size) (v8.heap.size) v12 (ya0) (D0) (yc0)) := L235.out.go (by omega) hB
  have L253 : Hid (MidC (wo115.drew.heap.size) (v9.heap.size) v12 (xa51) (S) (xc51)) := L236.out.go (by omega) hB
  have L254 : Hid (MidC (wo115.drew.heap.size) (v9.heap.size) v12 (ya51) (DX) (yc51)) := L237.out.go (by omega) hB
  have L255 : Hid (MidC (wo155.heap.size) (v10.heap.size) v12 (xa52) (S) (xc52)) := L238.out.go (by omega) hB
  have L256 : Hid (MidC (wo155.heap.size) (v10.heap.size) v12 (ya52) (DP) (yc52)) := L239.out.go (by omega) hB
  have L257 : Hid (MidC (wo187.heap.size) (v11.heap.size) v12 (xa53) (S) (xc53)) := L240.out.go (by omega) hB
  have L258 : Hid (MidC (wo187.heap.size) (v11.heap.size) v12 (ya53) (DQ) (yc53)) := L241.out.go (by omega) hB
  have hb259 : Hid (Below w.heap.size w v12) := hb242.out.trans (hB.mono hb242.out.size)
  have L260 : Hid (MidC (wo225.heap.size) (v12.heap.size) v12 (xa54) (S) (xc54)) := hX54.midc
  have L261 : Hid (MidC (wo225.heap.size) (v12.heap.size) v12 (ya54) (DX) (yc54)) := hY54.midc
  clear hB hb242 B227 B228 B229 B230 B231 B232 B233 L234 L235 L236 L237 L238 L239 L240 L241 hX54 hY54
  clear L255 L256 L257 L258 B249 B250
  have n262 := Abx.new v12 (.bool false) (.slice xa54 S.length xc54) (.slice ya54 DX.length yc54)
  have l263 := ((B248.out.al (.cells #[.bool false, .slice xa54 S.length xc54, .slice ya54 DX.length yc54] 25))).c0
  have l264 := ((B248.out.al (.cells #[.bool false, .slice xa54 S.length xc54, .slice ya54 DX.length yc54] 25))).c1
  have l265 := ((B248.out.al (.cells #[.bool false, .slice xa54 S.length xc54, .slice ya54 DX.length yc54] 25))).c2
  have l266 := (n262).c0
  have l267 := (n262).c1
  have l268 := (n262).c2
  go_wp2_with fail
  obtain ⟨wo269, hwo269⟩ : ∃ wo269, wo269 = (v12.alloc (.cells #[.bool false, .slice xa54 S.length xc54, .slice ya54 DX.length yc54] 25)) := ⟨_, rfl⟩
  rw [← hwo269]
  have z270 : v12.heap.size + 1 ≤ wo269.heap.size := by rw [hwo269]; simp only [World.size_alloc]; omega
  have B271 : Hid (Abx wo269 (w.heap.size) (.bool false) (.slice (some ⟨b1, o1, none⟩) sz1.length sc1) (.slice da1 dz1.length dc1)) := by rw [hwo269]; exact (B244.out.al (.cells #[.bool false, .slice xa54 S.length xc54, .slice ya54 DX.length yc54] 25))
  have B272 : Hid (Abx wo269 (w.heap.size + 1) (.bool false) (.slice (some ⟨b2, o2, none⟩) sz2.length sc2) (.slice da2 dz2.length dc2)) := by rw [hwo269]; exact (B245.out.al (.cells #[.bool false, .slice xa54 S.length xc54, .slice ya54 DX.length yc54] 25))
  have B273 : Hid (Abx wo269 (w.heap.size + 1 + 1) (.bool false) (.slice (some ⟨b3, o3, none⟩) sz3.length sc3) (.slice da3 dz3.length dc3)) := by rw [hwo269]; exact (B246.out.al (.cells #[.bool false, .slice xa54 S.length xc54, .slice ya54 DX.length yc54] 25))
  have B274 : Hid (Abx wo269 (v8.heap.size) (.bool false) (.slice xa0 sz2.length xc0) (.slice ya0 D0.length yc0)) := by rw [hwo269]; exact (B247.out.al (.cells #[.bool false, .slice xa54 S.length xc54, .slice ya54 DX.length yc54] 25))
  have B275 : Hid (Abx wo269 (v9.heap.size) (.bool false) (.slice xa51 S.length xc51) (.slice ya51 DX.length yc51)) := by rw [hwo269]; exact (B248.out.al (.cells #[.bool false, .slice xa54 S.length xc54, .slice ya54 DX.length yc54] 25))
  have B276 : Hid (Abx wo269 (v12.heap.size) (.bool false) (.slice xa54 S.length xc54) (.slice ya54 DX.length yc54)) := by rw [hwo269]; exact n262
  have L277 : Hid (MidC (v7.heap.size) (v8.heap.size) wo269 (xa0) (sz2) (xc0)) := by rw [hwo269]; exact (L251.out.al (by omega) (.cells #[.bool false, .slice xa54 S.length xc54, .slice ya54 DX.length yc54] 25))
  have L278 : Hid (MidC (v7.heap.size) (v8.heap.size) wo269 (ya0) (D0) (yc0)) := by rw [hwo269]; exact (L252.out.al (by omega) (.cells #[.bool false, .slice xa54 S.length xc54, .slice ya54 DX.length yc54] 25))
  have L279 : Hid (MidC (wo115.drew.heap.size) (v9.heap.size) wo269 (xa51) (S) (xc51)) := by rw [hwo269]; exact (L253.out.al (by omega) (.cells #[.bool false, .slice xa54 S.length xc54, .slice ya54 DX.length yc54] 25))
  have L280 : Hid (MidC (wo115.drew.heap.size) (v9.heap.size) wo269 (ya51) (DX) (yc51)) := by rw [hwo269]; exact (L254.out.al (by omega) (.cells #[.bool false, .slice xa54 S.length xc54, .slice ya54 DX.length yc54] 25))
  have L281 : Hid (MidC (wo225.heap.size) (v12.heap.size) wo269 (xa54) (S) (xc54)) := by rw [hwo269]; exact (L260.out.al (by omega) (.cells #[.bool false, .slice xa54 S.length xc54, .slice ya54 DX.length yc54] 25))
  have L282 : Hid (MidC (wo225.heap.size) (v12.heap.size) wo269 (ya54) (DX) (yc54)) := by rw [hwo269]; exact (L261.out.al (by omega) (.cells #[.bool false, .slice xa54 S.length xc54, .slice ya54 DX.length yc54] 25))
  have hb283 : Hid (Below w.heap.size w wo269) := by rw [hwo269]; exact (hb259.out.alloc (by omega) (.cells #[.bool false, .slice xa54 S.length xc54, .slice ya54 DX.length yc54] 25))
  have zwo269 : w.heap.size ≤ wo269.heap.size := hb283.out.size
  clear hwo269 n262 l263 l264 l265 l266 l267 l268 hb259 B244 B245 B246 B247 B248 L251 L252 L253 L254 L260 L261
  refine (alike_eq false xa51 xc51 S ya51 yc51 DX xa54 xc54 S ya54 yc54 DX rfl rfl (by omega) (by omega) _ (L279.out.is (by omega)) (L280.out.is (by omega)).1 (L281.out.is (by omega)) (L282.out.is (by omega)).1).mono ?_
  rintro e v13 ⟨rfl, hB⟩
  have z284 : wo269.heap.size ≤ v13.heap.size := hB.size
  have B285 : Hid (Abx v13 (w.heap.size) (.bool false) (.slice (some ⟨b1, o1, none⟩) sz1.length sc1) (.slice da1 dz1.length dc1)) := B271.out.go hB
  have B286 : Hid (Abx v13 (w.heap.size + 1) (.bool false) (.slice (some ⟨b2, o2, none⟩) sz2.length sc2) (.slice da2 dz2.length dc2)) := B272.out.go hB
  have B287 : Hid (Abx v13 (w.heap.size + 1 + 1) (.bool false) (.slice (some ⟨b3, o3, none⟩) sz3.length sc3) (.slice da3 dz3.length dc3)) := B273.out.go hB
  have B288 : Hid (Abx v13 (v8.heap.size) (.bool false) (.slice xa0 sz2.length xc0) (.slice ya0 D0.length yc0)) := B274.out.go hB
  have B289 : Hid (Abx v13 (v9.heap.size) (.bool false) (.slice xa51 S.length xc51) (.slice ya51 DX.length yc51)) := B275.out.go hB
  have B290 : Hid (Abx v13 (v12.heap.size) (.bool false) (.slice xa54 S.length xc54) (.slice ya54 DX.length yc54)) := B276.out.go hB
  have L291 : Hid (MidC (v7.heap.size) (v8.heap.size) v13 (xa0) (sz2) (xc0)) := L277.out.go (by omega) hB
  have L292 : Hid (MidC (v7.heap.size) (v8.heap.size) v13 (ya0) (D0) (yc0)) := L278.out.go (by omega) hB
  have L293 : Hid (MidC (wo115.drew.heap.size) (v9.heap.size) v13 (xa51) (S) (xc51)) := L279.out.go (by omega) hB
  have L294 : Hid (MidC (wo115.drew.heap.size) (v9.heap.size) v13 (ya51) (DX) (yc51)) := L280.out.go (by omega) hB
  have L295 : Hid (MidC (wo225.heap.size) (v12.heap.size) v13 (xa54) (S) (xc54)) := L281.out.go (by omega) hB
  have L296 : Hid (MidC (wo225.heap.size) (v12.heap.size) v13 (ya54) (DX) (yc54)) := L282.out.go (by omega) hB
  have hb297 : Hid (Below w.heap.size w v13) := hb283.out.trans (hB.mono hb283.out.size)
  clear hB hb283 B271 B272 B273 B274 B275 B276 L277 L278 L279 L280 L281 L282
  clear L293 L294 L295 L296 B289 B290
  go_wp2_with fail
  have sx21 : v13.cell? ⟨b2, o2 + 1, none⟩ = some (.int .i64 n2) := (hb297.out.cell (p := ⟨b2, o2 + 1, none⟩) HC2.out.1).trans HC2.out.2.2
  have sx10 : v13.cell? ⟨b1, o1, none⟩ = some (.int .i64 m1) := (hb297.out.cell (p := ⟨b1, o1, none⟩) HC1.out.1).trans HC1.out.2.1
  have hb0b : Below v13.heap.size v13 v13.drew := (Below.refl _ v13).drew
  refine anyC_begin (fun w' => w'.cell? ⟨w.heap.size, 0, none⟩ = some (.bool false) ∧ w'.cell? ⟨w.heap.size, 1, none⟩ = some (.slice (some ⟨b1, o1, none⟩) sz1.length sc1) ∧ w'.cell? ⟨w.heap.size, 2, none⟩ = some (.slice da1 dz1.length dc1) ∧ w'.cell? ⟨w.heap.size + 1, 0, none⟩ = some (.bool false) ∧ w'.cell? ⟨w.heap.size + 1, 1, none⟩ = some (.slice (some ⟨b2, o2, none⟩) sz2.length sc2) ∧ w'.cell? ⟨w.heap.size + 1, 2, none⟩ = some (.slice da2 dz2.length dc2) ∧ w'.cell? ⟨b2, o2 + 1, none⟩ = some (.int .i64 n2) ∧ w'.cell? ⟨b1, o1, none⟩ = some (.int .i64 m1)) 9 #[false, false, false, false, false, false, false, false, false] (by kernel_rfl) rfl rfl ?_
  refine anyC_put 0 131 ?rv524 #[true, false, false, false, false, false, false, false, false] rfl rfl rfl (by kernel_rfl) (by kernel_rfl) (by kernel_rfl) (fun _ _ _ h => h) ?ry524 (⟨(B285.out.go hb0b).c0, (B285.out.go hb0b).c1, (B285.out.go hb0b).c2, (B286.out.go hb0b).c0, (B286.out.go hb0b).c1, (B286.out.go hb0b).c2, cell_to sx21 hb0b, cell_to sx10 hb0b⟩) ?rm524
  case ry524 => first | exact Or.inl ⟨by rfl, by intro w'; go_simp; first | done | rfl⟩
  case rm524 =>
  simp only [Act.put, List.setIfInBounds_toArray, List.set_cons_zero, List.set_cons_succ]
  refine anyC_take 1 132 ?rv525 #[true, true, false, false, false, false, false, false, false] rfl rfl rfl (by kernel_rfl) (by kernel_rfl) (by kernel_rfl) (fun _ _ _ h => h) ?ry525 (⟨(B285.out.go hb0b).c0, (B285.out.go hb0b).c1, (B285.out.go hb0b).c2, (B286.out.go hb0b).c0, (B286.out.go hb0b).c1, (B286.out.go hb0b).c2, cell_to sx21 hb0b, cell_to sx10 hb0b⟩) ?rm525
  case ry525 => first | exact Or.inl ⟨by rfl, by intro w' hw'; (try dsimp only at hw'); go_simp; first | done | rfl⟩
  case rm525 =>
  simp only [Act.put, List.setIfInBounds_toArray, List.set_cons_zero, List.set_cons_succ]
  refine anyC_put 2 133 ?rv526 #[true, true, true, false, false, false, false, false, false] rfl rfl rfl (by kernel_rfl) (by kernel_rfl) (by kernel_rfl) (fun _ _ _ h => h) ?ry526 (⟨(B285.out.go hb0b).c0, (B285.out.go hb0b).c1, (B285.out.go hb0b).c2, (B286.out.go hb0b).c0, (B286.out.go hb0b).c1, (B286.out.go hb0b).c2, cell_to sx21 hb0b, cell_to sx10 hb0b⟩) ?rm526
  case ry526 => first | exact Or.inl ⟨by rfl, by intro w'; go_simp; first | done | rfl⟩
  case rm526 =>
  simp only [Act.put, List.setIfInBounds_toArray, List.set_cons_zero, List.set_cons_succ]
  refine anyC_take 3 134 ?rv527 #[true, true, true, true, false, false, false, false, false] rfl rfl rfl (by kernel_rfl) (by kernel_rfl) (by kernel_rfl) (fun _ _ _ h => h) ?ry527 (⟨(B285.out.go hb0b).c0, (B285.out.go hb0b).c1, (B285.out.go hb0b).c2, (B286.out.go hb0b).c0, (B286.out.go hb0b).c1, (B286.out.go hb0b).c2, cell_to sx21 hb0b, cell_to sx10 hb0b⟩) ?rm527
  case ry527 => first | exact Or.inl ⟨by rfl, by intro w' hw'; (try dsimp only at hw'); go_simp; first | done | rfl⟩
  case rm527 =>
  simp only [Act.put, List.setIfInBounds_toArray, List.set_cons_zero, List.set_cons_succ]
  refine anyC_put 4 135 ?rv528 #[true, true, true, true, true, false, false, false, false] rfl rfl rfl (by kernel_rfl) (by kernel_rfl) (by kernel_rfl) (fun _ _ _ h => h) ?ry528 (⟨(B285.out.go hb0b).c0, (B285.out.go hb0b).c1, (B285.out.go hb0b).c2, (B286.out.go hb0b).c0, (B286.out.go hb0b).c1, (B286.out.go hb0b).c2, cell_to sx21 hb0b, cell_to sx10 hb0b⟩) ?rm528
  case ry528 => first | exact Or.inl ⟨by rfl, by intro w'; go_simp; first | done | rfl⟩
  case rm528 =>
  simp only [Act.put, List.setIfInBounds_toArray, List.set_cons_zero, List.set_cons_succ]
  refine anyC_take 5 136 ?rv529 #[true, true, true, true, true, true, false, false, false] rfl rfl rfl (by kernel_rfl) (by kernel_rfl) (by kernel_rfl) (fun _ _ _ h => h) ?ry529 (⟨(B285.out.go hb0b).c0, (B285.out.go hb0b).c1, (B285.out.go hb0b).c2, (B286.out.go hb0b).c0, (B286.out.go hb0b).c1, (B286.out.go hb0b).c2, cell_to sx21 hb0b, cell_to sx10 hb0b⟩) ?rm529
  case ry529 => first | exact Or.inl ⟨by rfl, by intro w' hw'; (try dsimp only at hw'); go_simp; first | done | rfl⟩
  case rm529 =>
  simp only [Act.put, List.setIfInBounds_toArray, List.set_cons_zero, List.set_cons_succ]
  refine anyC_put 6 137 ?rv530 #[true, true, true, true, true, true, true, false, false] rfl rfl rfl (by kernel_rfl) (by kernel_rfl) (by kernel_rfl) (fun _ _ _ h => h) ?ry530 (⟨(B285.out.go hb0b).c0, (B285.out.go hb0b).c1, (B285.out.go hb0b).c2, (B286.out.go hb0b).c0, (B286.out.go hb0b).c1, (B286.out.go hb0b).c2, cell_to sx21 hb0b, cell_to sx10 hb0b⟩) ?rm530
  case ry530 => first | exact Or.inl ⟨by rfl, by intro w'; go_simp; first | done | rfl⟩
  case rm530 =>
  simp only [Act.put, List.setIfInBounds_toArray, List.set_cons_zero, List.set_cons_succ]
  refine anyC_take 7 138 ?rv531 #[true, true, true, true, true, true, true, true, false] rfl rfl rfl (by kernel_rfl) (by kernel_rfl) (by kernel_rfl) (fun _ _ _ h => h) ?ry531 (⟨(B285.out.go hb0b).c0, (B285.out.go hb0b).c1, (B285.out.go hb0b).c2, (B286.out.go hb0b).c0, (B286.out.go hb0b).c1, (B286.out.go hb0b).c2, cell_to sx21 hb0b, cell_to sx10 hb0b⟩) ?rm531
  case ry531 => first | exact Or.inl ⟨by rfl, by intro w' hw'; (try dsimp only at hw'); go_simp; first | done | rfl⟩
  case rm531 =>
  simp only [Act.put, List.setIfInBounds_toArray, List.set_cons_zero, List.set_cons_succ]
  refine anyC_put 8 139 ?rv532 #[true, true, true, true, true, true, true, true, true] rfl rfl rfl (by kernel_rfl) (by kernel_rfl) (by kernel_rfl) (fun _ _ _ h => h) ?ry532 (⟨(B285.out.go hb0b).c0, (B285.out.go hb0b).c1, (B285.out.go hb0b).c2, (B286.out.go hb0b).c0, (B286.out.go hb0b).c1, (B286.out.go hb0b).c2, cell_to sx21 hb0b, cell_to sx10 hb0b⟩) ?rm532
  case ry532 => first | exact Or.inl ⟨by rfl, by intro w'; go_simp; first | done | rfl⟩
  case rm532 =>
  simp only [Act.put, List.setIfInBounds_toArray, List.set_cons_zero, List.set_cons_succ]
  refine anyC_done (by kernel_rfl) ?_
  have hB := hb0b
  have z298 : v13.heap.size ≤ v13.drew.heap.size := hB.size
  have B299 : Hid (Abx v13.drew (w.heap.size) (.bool false) (.slice (some ⟨b1, o1, none⟩) sz1.length sc1) (.slice da1 dz1.length dc1)) := B285.out.go hB
  have B300 : Hid (Abx v13.drew (w.heap.size + 1) (.bool false) (.slice (some ⟨b2, o2, none⟩) sz2.length sc2) (.slice da2 dz2.length dc2)) := B286.out.go hB
  have B301 : Hid (Abx v13.drew (w.heap.size + 1 + 1) (.bool false) (.slice (some ⟨b3, o3, none⟩) sz3.length sc3) (.slice da3 dz3.length dc3)) := B287.out.go hB
  have B302 : Hid (Abx v13.drew (v8.heap.size) (.bool false) (.slice xa0 sz2.length xc0) (.slice ya0 D0.length yc0)) := B288.out.go hB
  have L303 : Hid (MidC (v7.heap.size) (v8.heap.size) v13.drew (xa0) (sz2) (xc0)) := L291.out.go (by omega) hB
  have L304 : Hid (MidC (v7.heap.size) (v8.heap.size) v13.drew (ya0) (D0) (yc0)) := L292.out.go (by omega) hB
  have hb305 : Hid (Below w.heap.size w v13.drew) := hb297.out.trans (hB.mono hb297.out.size)
  clear hB hb297 B285 B286 B287 B288 L291 L292
  go_wp2_with fail
  go_ret
  exact ⟨rfl, hb305.out⟩
set_option maxRecDepth 100000 in
set_option maxHeartbeats 4000000 in
theorem sums_l (HNi : CNi) (H2 : C2d) (c1 : Bool) (sa1 : Option Addr) (sc1 : Nat) (sz1 : List Int) (da1 : Option Addr) (dc1 : Nat) (dz1 : List Int) (c2 : Bool) (sa2 : Option Addr) (sc2 : Nat) (sz2 : List Int) (da2 : Option Addr) (dc2 : Nat) (dz2 : List Int) (c3 : Bool) (sa3 : Option Addr) (sc3 : Nat) (sz3 : List Int) (da3 : Option Addr) (dc3 : Nat) (dz3 : List Int) (w : World) (w8 : IsArrD w sa1 sz1 sc1 da1 dz1 dc1) (w9 : IsArrD w sa2 sz2 sc2 da2 dz2 dc2) (w10 : IsArrD w sa3 sz3 sc3 da3 dz3 dc3) (G1 : Hid (GrdP 16 c1 sz1 dz1)) (G2 : Hid (GrdP 16 c2 sz2 dz2)) (G3 : Hid (GrdP 16 c3 sz3 dz3)) (ES : Hid (sz2 = sz3)) (E1 : Hid (¬ nth sz1 1 = nth sz2 0)) (E2 : Hid (nth sz2 1 = nth sz1 0)) :
    Calls Try.prog 5 #[.agg #[.bool c1, .slice sa1 sz1.length sc1, .slice da1 dz1.length dc1], .agg #[.bool c2, .slice sa2 sz2.length sc2, .slice da2 dz2.length dc2], .agg #[.bool c3, .slice sa3 sz3.length sc3, .slice da3 dz3.length dc3]] w fun e w' => e = .returned (.bool true) ∧ Below w.heap.size w w' := by
  obtain ⟨b1, o1, rfl, hq1, hc1⟩ := w8.2.2.1.1.at (q := 0) (by rw [G1.out.2.1]; decide)
  have hcf1 := G1.out.1
  subst hcf1
  obtain ⟨m1, hm1⟩ : ∃ m, m = nth sz1 0 := ⟨_, rfl⟩
  obtain ⟨n1, hn1⟩ : ∃ n, n = nth sz1 1 := ⟨_, rfl⟩
  have HC1 : Hid (b1 < w.heap.size ∧ w.cell? ⟨b1, o1, none⟩ = some (.int .i64 m1) ∧ w.cell? ⟨b1, o1 + 1, none⟩ = some (.int .i64 n1)) := ⟨hq1, by have := hc1 0 (by rw [G1.out.2.1]; decide); rw [Nat.add_zero, ← hm1] at this; exact this, by rw [hn1]; exact hc1 1 (by rw [G1.out.2.1]; decide)⟩
  have HM1 : Hid (m1 = nth sz1 0 ∧ n1 = nth sz1 1) := ⟨hm1, hn1⟩
  have hz1 : sz1.length = 2 := G1.out.2.1
  have HZ1 : Hid (sz1.length = 2) := hz1
  have lz1 : 1 < sz1.length := by omega
  have ly1 : 0 < sz1.length := by omega
  have lw1 : (1 : Int) < (sz1.length : Int) := by omega
  have lv1 : (0 : Int) < (sz1.length : Int) := by omega
  clear hq1 hc1 hm1 hn1 hz1
  obtain ⟨b2, o2, rfl, hq2, hc2⟩ := w9.2.2.1.1.at (q := 0) (by rw [G2.out.2.1]; decide)
  have hcf2 := G2.out.1
  subst hcf2
  obtain ⟨m2, hm2⟩ : ∃ m, m = nth sz2 0 := ⟨_, rfl⟩
  obtain ⟨n2, hn2⟩ : ∃ n, n = nth sz2 1 := ⟨_, rfl⟩
  have HC2 : Hid (b2 < w.heap.size ∧ w.cell? ⟨b2, o2, none⟩ = some (.int .i64 m2) ∧ w.cell? ⟨b2, o2 + 1, none⟩ = some (.int .i64 n2)) := ⟨hq2, by have := hc2 0 (by rw [G2.out.2.1]; decide); rw [Nat.add_zero, ← hm2] at this; exact this, by rw [hn2]; exact hc2 1 (by rw [G2.out.2.1]; decide)⟩
  have HM2 : Hid (m2 = nth sz2 0 ∧ n2 = nth sz2 1) := ⟨hm2, hn2⟩
  have hz2 : sz2.length = 2 := G2.out.2.1
  have HZ2 : Hid (sz2.length = 2) := hz2
  have lz2 : 1 < sz2.length := by omega
  have ly2 : 0 < sz2.length := by omega
  have lw2 : (1 : Int) < (sz2.length : Int) := by omega
  have lv2 : (0 : Int) < (sz2.length : Int) := by omega
  clear hq2 hc2 hm2 hn2 hz2
  obtain ⟨b3, o3, rfl, hq3, hc3⟩ := w10.2.2.1.1.at (q := 0) (by rw [G3.out.2.1]; decide)
  have hcf3 := G3.out.1
  subst hcf3
  obtain ⟨m3, hm3⟩ : ∃ m, m = nth sz3 0 := ⟨_, rfl⟩
  obtain ⟨n3, hn3⟩ : ∃ n, n = nth sz3 1 := ⟨_, rfl⟩
  have HC3 : Hid (b3 < w.heap.size ∧ w.cell? ⟨b3, o3, none⟩ = some (.int .i64 m3) ∧ w.cell? ⟨b3, o3 + 1, none⟩ = some (.int .i64 n3)) := ⟨hq3, by have := hc3 0 (by rw [G3.out.2.1]; decide); rw [Nat.add_zero, ← hm3] at this; exact this, by rw [hn3]; exact hc3 1 (by rw [G3.out.2.1]; decide)⟩
  have HM3 : Hid (m3 = nth sz3 0 ∧ n3 = nth sz3 1) := ⟨hm3, hn3⟩
  have hz3 : sz3.length = 2 := G3.out.2.1
  have HZ3 : Hid (sz3.length = 2) := hz3
  have lz3 : 1 < sz3.length := by omega
  have ly3 : 0 < sz3.length := by omega
  have lw3 : (1 : Int) < (sz3.length : Int) := by omega
  have lv3 : (0 : Int) < (sz3.length : Int) := by omega
  clear hq3 hc3 hm3 hn3 hz3
  obtain ⟨D0, Q1, Q2, Q3⟩ := sum13 G2.out G3.out ES.out w9.2.2.2.2.2 w10.2.2.2.2.2
  have HQ1 : Hid (_) := Q1
  have HQ2 : Hid (_) := Q2
  have t1 : (n1 == m2) = false := by rw [HM1.out.2, HM2.out.1]; simpa using E1.out
  have t2 : (n2 != m1) = false := by rw [HM2.out.2, HM1.out.1]; rw [E2.out]; simp
  obtain ⟨S', DX', DP', DQ', R1, R2, R3, R4, TT, L2⟩ := suml13 G1.out G2.out G3.out ES.out E2.out w8.2.2.2.2.2 w9.2.2.2.2.2 w10.2.2.2.2.2 Q1.2.2
  have HL1 : Hid (_) := R1
  have HL2 : Hid (_) := R2
  have HL3 : Hid (_) := R3
  have HL4 : Hid (_) := R4
  have HLT : Hid (_) := TT
  clear R1 R2 R3 R4 TT
  clear Q1 Q2
  obtain ⟨x11, x12, x3, x4, s64, T⟩ := w8
  have HI1 : Hid (IsC w.heap.size w (some ⟨b1, o1, none⟩) sz1 sc1 ∧ IsC w.heap.size w da1 dz1 dc1 ∧ (∀ j, In64 (nth sz1 j)) ∧ ∀ j, In64 (nth dz1 j)) := ⟨x3, x4, s64, T⟩
  clear x3 x4 T s64
  obtain ⟨x21, x22, x3, x4, s64, T⟩ := w9
  have HI2 : Hid (IsC w.heap.size w (some ⟨b2, o2, none⟩) sz2 sc2 ∧ IsC w.heap.size w da2 dz2 dc2 ∧ (∀ j, In64 (nth sz2 j)) ∧ ∀ j, In64 (nth dz2 j)) := ⟨x3, x4, s64, T⟩
  clear x3 x4 T s64
  obtain ⟨x31, x32, x3, x4, s64, T⟩ := w10
  have HI3 : Hid (IsC w.heap.size w (some ⟨b3, o3, none⟩) sz3 sc3 ∧ IsC w.heap.size w da3 dz3 dc3 ∧ (∀ j, In64 (nth sz3 j)) ∧ ∀ j, In64 (nth dz3 j)) := ⟨x3, x4, s64, T⟩
  clear x3 x4 T s64
  have n1 := Abx.new w (.bool false) (.slice (some ⟨b1, o1, none⟩) sz1.length sc1) (.slice da1 dz1.length dc1)
  have n2 := Abx.new (w.alloc (.cells #[.bool false, .slice (some ⟨b1, o1, none⟩) sz1.length sc1, .slice da1 dz1.length dc1] 25)) (.bool false) (.slice (some ⟨b2, o2, none⟩) sz2.length sc2) (.slice da2 dz2.length dc2)
  simp only [World.size_alloc] at n2
  have n3 := Abx.new ((w.alloc (.cells #[.bool false, .slice (some ⟨b1, o1, none⟩) sz1.length sc1, .slice da1 dz1.length dc1] 25)).alloc (.cells #[.bool false, .slice (some ⟨b2, o2, none⟩) sz2.length sc2, .slice da2 dz2.length dc2] 25)) (.bool false) (.slice (some ⟨b3, o3, none⟩) sz3.length sc3) (.slice da3 dz3.length dc3)
  simp only [World.size_alloc] at n3
  have n4 := lit_mid (((w.alloc (.cells #[.bool false, .slice (some ⟨b1, o1, none⟩) sz1.length sc1, .slice da1 dz1.length dc1] 25)).alloc (.cells #[.bool false, .slice (some ⟨b2, o2, none⟩) sz2.length sc2, .slice da2 dz2.length dc2] 25)).alloc (.cells #[.bool false, .slice (some ⟨b3, o3, none⟩) sz3.length sc3, .slice da3 dz3.length dc3] 25)) 3 [1, 1] 2 rfl
  simp only [World.size_alloc, List.map_cons, List.map_nil] at n4
  go_enter Try.func5, Try.ntmps5
  go_wp2_with fail
  obtain ⟨wo5, hwo5⟩ : ∃ wo5, wo5 = ((((w.alloc (.cells #[.bool false, .slice (some ⟨b1, o1, none⟩) sz1.length sc1, .slice da1 dz1.length dc1] 25)).alloc (.cells #[.bool false, .slice (some ⟨b2, o2, none⟩) sz2.length sc2, .slice da2 dz2.length dc2] 25)).alloc (.cells #[.bool false, .slice (some ⟨b3, o3, none⟩) sz3.length sc3, .slice da3 dz3.length dc3] 25)).alloc (.cells #[.int .i64 1, .int .i64 1] 3)) := ⟨_, rfl⟩
  rw [← hwo5]
  have z6 : w.heap.size + 1 + 1 + 1 + 1 ≤ wo5.heap.size := by rw [hwo5]; simp only [World.size_alloc]; omega
  have B7 : Hid (Abx wo5 (w.heap.size) (.bool false) (.slice (some ⟨b1, o1, none⟩) sz1.length sc1) (.slice da1 dz1.length dc1)) := by rw [hwo5]; exact (((n1.al (.cells #[.bool false, .slice (some ⟨b2, o2, none⟩) sz2.length sc2, .slice da2 dz2.length dc2] 25)).al (.cells #[.bool false, .slice (some ⟨b3, o3, none⟩) sz3.length sc3, .slice da3 dz3.length dc3] 25)).al (.cells #[.int .i64 1, .int .i64 1] 3))
  have B8 : Hid (Abx wo5 (w.heap.size + 1) (.bool false) (.slice (some ⟨b2, o2, none⟩) sz2.length sc2) (.slice da2 dz2.length dc2)) := by rw [hwo5]; exact ((n2.al (.cells #[.bool false, .slice (some ⟨b3, o3, none⟩) sz3.length sc3, .slice da3 dz3.length dc3] 25)).al (.cells #[.int .i64 1, .int .i64 1] 3))
  have B9 : Hid (Abx wo5 (w.heap.size + 1 + 1) (.bool false) (.slice (some ⟨b3, o3, none⟩) sz3.length sc3) (.slice da3 dz3.length dc3)) := by rw [hwo5]; exact (n3.al (.cells #[.int .i64 1, .int .i64 1] 3))
  have L10 : Hid (MidC (w.heap.size + 1 + 1 + 1) (w.heap.size + 1 + 1 + 1 + 1) wo5 (some ⟨w.heap.size + 1 + 1 + 1, 0, none⟩) ([1, 1]) (2)) := by rw [hwo5]; exact n4
  have hb11 : Hid (Below w.heap.size w wo5) := by rw [hwo5]; exact (((((Below.refl w.heap.size w).alloc (by omega) (.cells #[.bool false, .slice (some ⟨b1, o1, none⟩) sz1.length sc1, .slice da1 dz1.length dc1] 25)).alloc (by simp only [World.size_alloc]; omega) (.cells #[.bool false, .slice (some ⟨b2, o2, none⟩) sz2.length sc2, .slice da2 dz2.length dc2] 25)).alloc (by simp only [World.size_alloc]; omega) (.cells #[.bool false, .slice (some ⟨b3, o3, none⟩) sz3.length sc3, .slice da3 dz3.length dc3] 25)).alloc (by simp only [World.size_alloc]; omega) (.cells #[.int .i64 1, .int .i64 1] 3))
  have zwo5 : w.heap.size ≤ wo5.heap.size := hb11.out.size
  clear hwo5 n1 n2 n3 n4
  refine (vec_c (some ⟨w.heap.size + 1 + 1 + 1, 0, none⟩) 2 [1, 1] (by simp) _ (L10.out.is (by omega)).1).mono ?_
  rintro e v1 ⟨vap, vcp, gap, gcp, rfl, hVp, hGp, hB⟩
  have z12 : wo5.heap.size ≤ v1.heap.size := hB.size
  have B13 : Hid (Abx v1 (w.heap.size) (.bool false) (.slice (some ⟨b1, o1, none⟩) sz1.length sc1) (.slice da1 dz1.length dc1)) := B7.out.go hB
  have B14 : Hid (Abx v1 (w.heap.size + 1) (.bool false) (.slice (some ⟨b2, o2, none⟩) sz2.length sc2) (.slice da2 dz2.length dc2)) := B8.out.go hB
  have B15 : Hid (Abx v1 (w.heap.size + 1 + 1) (.bool false) (.slice (some ⟨b3, o3, none⟩) sz3.length sc3) (.slice da3 dz3.length dc3)) := B9.out.go hB
  have L16 : Hid (MidC (w.heap.size + 1 + 1 + 1) (w.heap.size + 1 + 1 + 1 + 1) v1 (some ⟨w.heap.size + 1 + 1 + 1, 0, none⟩) ([1, 1]) (2)) := L10.out.go (by omega) hB
  have hb17 : Hid (Below w.heap.size w v1) := hb11.out.trans (hB.mono hb11.out.size)
  have L18 : Hid (MidC (wo5.heap.size) (v1.heap.size) v1 (vap) ([(2 : Int)]) (vcp)) := hVp.midc
  have L19 : Hid (MidC (wo5.heap.size) (v1.heap.size) v1 (gap) ([1, 1]) (gcp)) := hGp.midc
  clear hB hb11 B7 B8 B9 L10 hVp hGp
  clear L16
  have n20 := lit_mid v1 3 [4, 3] 2 rfl
  simp only [List.map_cons, List.map_nil] at n20
  go_wp2_with fail
  obtain ⟨wo21, hwo21⟩ : ∃ wo21, wo21 = (v1.alloc (.cells #[.int .i64 4, .int .i64 3] 3)) := ⟨_, rfl⟩
  rw [← hwo21]
  have z22 : v1.heap.size + 1 ≤ wo21.heap.size := by rw [hwo21]; simp only [World.size_alloc]; omega
  have B23 : Hid (Abx wo21 (w.heap.size) (.bool false) (.slice (some ⟨b1, o1, none⟩) sz1.length sc1) (.slice da1 dz1.length dc1)) := by rw [hwo21]; exact (B13.out.al (.cells #[.int .i64 4, .int .i64 3] 3))
  have B24 : Hid (Abx wo21 (w.heap.size + 1) (.bool false) (.slice (some ⟨b2, o2, none⟩) sz2.length sc2) (.slice da2 dz2.length dc2)) := by rw [hwo21]; exact (B14.out.al (.cells #[.int .i64 4, .int .i64 3] 3))
  have B25 : Hid (Abx wo21 (w.heap.size + 1 + 1) (.bool false) (.slice (some ⟨b3, o3, none⟩) sz3.length sc3) (.slice da3 dz3.length dc3)) := by rw [hwo21]; exact (B15.out.al (.cells #[.int .i64 4, .int .i64 3] 3))
  have L26 : Hid (MidC (wo5.heap.size) (v1.heap.size) wo21 (vap) ([(2 : Int)]) (vcp)) := by rw [hwo21]; exact (L18.out.al (by omega) (.cells #[.int .i64 4, .int .i64 3] 3))
  have L27 : Hid (MidC (wo5.heap.size) (v1.heap.size) wo21 (gap) ([1, 1]) (gcp)) := by rw [hwo21]; exact (L19.out.al (by omega) (.cells #[.int .i64 4, .int .i64 3] 3))
  have L28 : Hid (MidC (v1.heap.size) (v1.heap.size + 1) wo21 (some ⟨v1.heap.size, 0, none⟩) ([4, 3]) (2)) := by rw [hwo21]; exact n20
  have hb29 : Hid (Below w.heap.size w wo21) := by rw [hwo21]; exact (hb17.out.alloc (by omega) (.cells #[.int .i64 4, .int .i64 3] 3))
  have zwo21 : w.heap.size ≤ wo21.heap.size := hb29.out.size
  clear hwo21 n20 hb17 B13 B14 B15 L18 L19
  refine (vec_c (some ⟨v1.heap.size, 0, none⟩) 2 [4, 3] (by simp) _ (L28.out.is (by omega)).1).mono ?_
  rintro e v2 ⟨vaq, vcq, gaq, gcq, rfl, hVq, hGq, hB⟩
  have z30 : wo21.heap.size ≤ v2.heap.size := hB.size
  have B31 : Hid (Abx v2 (w.heap.size) (.bool false) (.slice (some ⟨b1, o1, none⟩) sz1.length sc1) (.slice da1 dz1.length dc1)) := B23.out.go hB
  have B32 : Hid (Abx v2 (w.heap.size + 1) (.bool false) (.slice (some ⟨b2, o2, none⟩) sz2.length sc2) (.slice da2 dz2.length dc2)) := B24.out.go hB
  have B33 : Hid (Abx v2 (w.heap.size + 1 + 1) (.bool false) (.slice (some ⟨b3, o3, none⟩) sz3.length sc3) (.slice da3 dz3.length dc3)) := B25.out.go hB
  have L34 : Hid (MidC (wo5.heap.size) (v1.heap.size) v2 (vap) ([(2 : Int)]) (vcp)) := L26.out.go (by omega) hB
  have L35 : Hid (MidC (wo5.heap.size) (v1.heap.size) v2 (gap) ([1, 1]) (gcp)) := L27.out.go (by omega) hB
  have L36 : Hid (MidC (v1.heap.size) (v1.heap.size + 1) v2 (some ⟨v1.heap.size, 0, none⟩) ([4, 3]) (2)) := L28.out.go (by omega) hB
  have hb37 : Hid (Below w.heap.size w v2) := hb29.out.trans (hB.mono hb29.out.size)
  have L38 : Hid (MidC (wo21.heap.size) (v2.heap.size) v2 (vaq) ([(2 : Int)]) (vcq)) := hVq.midc
  have L39 : Hid (MidC (wo21.heap.size) (v2.heap.size) v2 (gaq) ([4, 3]) (gcq)) := hGq.midc
  clear hB hb29 B23 B24 B25 L26 L27 L28 hVq hGq
  clear L36
  go_wp2_with fail
  refine (niw_ok 1 3 false vap vcp [(2 : Int)] 1 rfl gap gcp [1, 1] 2 rfl false vaq vcq [(2 : Int)] 1 rfl gaq gcq [4, 3] 2 rfl _ (by unfold In64; decide) (by unfold In64; decide) (by decide) (by decide) (L34.out.is (by omega)) (L35.out.is (by omega)).1 (lit12 (by decide)) (by decide) (by decide) (L38.out.is (by omega)) (L39.out.is (by omega)).1 (lit12 (by decide)) [] [7] HNi (by show inE 1 3 false [(2 : Int)] [1, 1] false [(2 : Int)] [4, 3] = 0 ∧ inS [(2 : Int)] [(2 : Int)] = [] ∧ inD 1 3 false [(2 : Int)] [1, 1] false [(2 : Int)] [4, 3] = [7]; decide +kernel)).mono ?_
  rintro e v3 ⟨f1, g1, f2, g2, rfl, hX0, hY0, hB⟩
  have z40 : v2.heap.size ≤ v3.heap.size := hB.size
  have B41 : Hid (Abx v3 (w.heap.size) (.bool false) (.slice (some ⟨b1, o1, none⟩) sz1.length sc1) (.slice da1 dz1.length dc1)) := B31.out.go hB
  have B42 : Hid (Abx v3 (w.heap.size + 1) (.bool false) (.slice (some ⟨b2, o2, none⟩) sz2.length sc2) (.slice da2 dz2.length dc2)) := B32.out.go hB
  have B43 : Hid (Abx v3 (w.heap.size + 1 + 1) (.bool false) (.slice (some ⟨b3, o3, none⟩) sz3.length sc3) (.slice da3 dz3.length dc3)) := B33.out.go hB
  have L44 : Hid (MidC (wo5.heap.size) (v1.heap.size) v3 (vap) ([(2 : Int)]) (vcp)) := L34.out.go (by omega) hB
  have L45 : Hid (MidC (wo5.heap.size) (v1.heap.size) v3 (gap) ([1, 1]) (gcp)) := L35.out.go (by omega) hB
  have L46 : Hid (MidC (wo21.heap.size) (v2.heap.size) v3 (vaq) ([(2 : Int)]) (vcq)) := L38.out.go (by omega) hB
  have L47 : Hid (MidC (wo21.heap.size) (v2.heap.size) v3 (gaq) ([4, 3]) (gcq)) := L39.out.go (by omega) hB
  have hb48 : Hid (Below w.heap.size w v3) := hb37.out.trans (hB.mono hb37.out.size)
  have L49 : Hid (MidC (v2.heap.size) (v3.heap.size) v3 (f1) ([]) (g1)) := hX0.midc
  have L50 : Hid (MidC (v2.heap.size) (v3.heap.size) v3 (f2) ([7]) (g2)) := hY0.midc
  clear hB hb37 B31 B32 B33 L34 L35 L38 L39 hX0 hY0
  clear L44 L45 L46 L47
  obtain ⟨b51, ob51, rfl, _, _, _, _⟩ := L50.out.at (i := 0) (by decide)
  have n52 := Abx.new v3 (.bool false) (.slice f1 0 g1) (.slice (some ⟨b51, ob51, none⟩) 1 g2)
  have l53 := (n52).c0
  have l54 := (n52).c1
  have l55 := (n52).c2
  obtain ⟨_, _, l56e, _, _, l56, _⟩ := ((L50.out.al (by omega) (.cells #[.bool false, .slice f1 0 g1, .slice (some ⟨b51, ob51, none⟩) 1 g2] 25))).at (i := 0) (by decide)
  cases l56e
  try simp only [Nat.add_zero] at l56
  have l57 := ((B42.out.al (.cells #[.bool false, .slice f1 0 g1, .slice (some ⟨b51, ob51, none⟩) 1 g2] 25))).c0
  have l58 := ((B42.out.al (.cells #[.bool false, .slice f1 0 g1, .slice (some ⟨b51, ob51, none⟩) 1 g2] 25))).c1
  have l59 := ((B42.out.al (.cells #[.bool false, .slice f1 0 g1, .slice (some ⟨b51, ob51, none⟩) 1 g2] 25))).c2
  have l60 := ((B43.out.al (.cells #[.bool false, .slice f1 0 g1, .slice (some ⟨b51, ob51, none⟩) 1 g2] 25))).c0
  have l61 := ((B43.out.al (.cells #[.bool false, .slice f1 0 g1, .slice (some ⟨b51, ob51, none⟩) 1 g2] 25))).c1
  have l62 := ((B43.out.al (.cells #[.bool false, .slice f1 0 g1, .slice (some ⟨b51, ob51, none⟩) 1 g2] 25))).c2
  go_wp2_with fail
  obtain ⟨wo63, hwo63⟩ : ∃ wo63, wo63 = (v3.alloc (.cells #[.bool false, .slice f1 0 g1, .slice (some ⟨b51, ob51, none⟩) 1 g2] 25)) := ⟨_, rfl⟩
  rw [← hwo63]
  have z64 : v3.heap.size + 1 ≤ wo63.heap.size := by rw [hwo63]; simp only [World.size_alloc]; omega
  have B65 : Hid (Abx wo63 (w.heap.size) (.bool false) (.slice (some ⟨b1, o1, none⟩) sz1.length sc1) (.slice da1 dz1.length dc1)) := by rw [hwo63]; exact (B41.out.al (.cells #[.bool false, .slice f1 0 g1, .slice (some ⟨b51, ob51, none⟩) 1 g2] 25))
  have B66 : Hid (Abx wo63 (w.heap.size + 1) (.bool false) (.slice (some ⟨b2, o2, none⟩) sz2.length sc2) (.slice da2 dz2.length dc2)) := by rw [hwo63]; exact (B42.out.al (.cells #[.bool false, .slice f1 0 g1, .slice (some ⟨b51, ob51, none⟩) 1 g2] 25))
  have B67 : Hid (Abx wo63 (w.heap.size + 1 + 1) (.bool false) (.slice (some ⟨b3, o3, none⟩) sz3.length sc3) (.slice da3 dz3.length dc3)) := by rw [hwo63]; exact (B43.out.al (.cells #[.bool false, .slice f1 0 g1, .slice (some ⟨b51, ob51, none⟩) 1 g2] 25))
  have B68 : Hid (Abx wo63 (v3.heap.size) (.bool false) (.slice f1 0 g1) (.slice (some ⟨b51, ob51, none⟩) 1 g2)) := by rw [hwo63]; exact n52
  have L69 : Hid (MidC (v2.heap.size) (v3.heap.size) wo63 (f1) ([]) (g1)) := by rw [hwo63]; exact (L49.out.al (by omega) (.cells #[.bool false, .slice f1 0 g1, .slice (some ⟨b51, ob51, none⟩) 1 g2] 25))
  have L70 : Hid (MidC (v2.heap.size) (v3.heap.size) wo63 (some ⟨b51, ob51, none⟩) ([7]) (g2)) := by rw [hwo63]; exact (L50.out.al (by omega) (.cells #[.bool false, .slice f1 0 g1, .slice (some ⟨b51, ob51, none⟩) 1 g2] 25))
  have hb71 : Hid (Below w.heap.size w wo63) := by rw [hwo63]; exact (hb48.out.alloc (by omega) (.cells #[.bool false, .slice f1 0 g1, .slice (some ⟨b51, ob51, none⟩) 1 g2] 25))
  have zwo63 : w.heap.size ≤ wo63.heap.size := hb71.out.size
  clear hwo63 n52 l53 l54 l55 l56 l57 l58 l59 l60 l61 l62 hb48 B41 B42 B43 L49 L50
  clear L69 L70 B68
  refine (ints_any (some ⟨b2, o2, none⟩) sc2 sz2 (some ⟨b3, o3, none⟩) sc3 sz3 x21 _ _ ((HI2.out.1.1.below hb71.out).mono hb71.out.size) ((HI3.out.1.1.below hb71.out).mono hb71.out.size)).mono ?_
  rintro e v4 ⟨rfl, hB⟩
  have z72 : wo63.heap.size ≤ v4.heap.size := hB.size
  have B73 : Hid (Abx v4 (w.heap.size) (.bool false) (.slice (some ⟨b1, o1, none⟩) sz1.length sc1) (.slice da1 dz1.length dc1)) := B65.out.go hB
  have B74 : Hid (Abx v4 (w.heap.size + 1) (.bool false) (.slice (some ⟨b2, o2, none⟩) sz2.length sc2) (.slice da2 dz2.length dc2)) := B66.out.go hB
  have B75 : Hid (Abx v4 (w.heap.size + 1 + 1) (.bool false) (.slice (some ⟨b3, o3, none⟩) sz3.length sc3) (.slice da3 dz3.length dc3)) := B67.out.go hB
  have hb76 : Hid (Below w.heap.size w v4) := hb71.out.trans (hB.mono hb71.out.size)
  clear hB hb71 B65 B66 B67
  rw [eqB_true ES.out]
  have l77 := (B73.out).c0
  have l78 := (B73.out).c1
  have l79 := (B73.out).c2
  go_wp2_with fail
  clear l77 l78 l79
  refine (grid_yes 16 (by decide) false (some ⟨b1, o1, none⟩) sc1 sz1 da1 dc1 dz1 _ ((HI1.out.1.1.below hb76.out).mono hb76.out.size) G1.out).mono ?_
  rintro e v5 ⟨rfl, hB⟩
  have z80 : v4.heap.size ≤ v5.heap.size := hB.size
  have B81 : Hid (Abx v5 (w.heap.size) (.bool false) (.slice (some ⟨b1, o1, none⟩) sz1.length sc1) (.slice da1 dz1.length dc1)) := B73.out.go hB
  have B82 : Hid (Abx v5 (w.heap.size + 1) (.bool false) (.slice (some ⟨b2, o2, none⟩) sz2.length sc2) (.slice da2 dz2.length dc2)) := B74.out.go hB
  have B83 : Hid (Abx v5 (w.heap.size + 1 + 1) (.bool false) (.slice (some ⟨b3, o3, none⟩) sz3.length sc3) (.slice da3 dz3.length dc3)) := B75.out.go hB
  have hb84 : Hid (Below w.heap.size w v5) := hb76.out.trans (hB.mono hb76.out.size)
  clear hB hb76 B73 B74 B75
  have l85 := (B82.out).c0
  have l86 := (B82.out).c1
  have l87 := (B82.out).c2
  go_wp2_with fail
  clear l85 l86 l87
  refine (grid_yes 16 (by decide) false (some ⟨b2, o2, none⟩) sc2 sz2 da2 dc2 dz2 _ ((HI2.out.1.1.below hb84.out).mono hb84.out.size) G2.out).mono ?_
  rintro e v6 ⟨rfl, hB⟩
  have z88 : v5.heap.size ≤ v6.heap.size := hB.size
  have B89 : Hid (Abx v6 (w.heap.size) (.bool false) (.slice (some ⟨b1, o1, none⟩) sz1.length sc1) (.slice da1 dz1.length dc1)) := B81.out.go hB
  have B90 : Hid (Abx v6 (w.heap.size + 1) (.bool false) (.slice (some ⟨b2, o2, none⟩) sz2.length sc2) (.slice da2 dz2.length dc2)) := B82.out.go hB
  have B91 : Hid (Abx v6 (w.heap.size + 1 + 1) (.bool false) (.slice (some ⟨b3, o3, none⟩) sz3.length sc3) (.slice da3 dz3.length dc3)) := B83.out.go hB
  have hb92 : Hid (Below w.heap.size w v6) := hb84.out.trans (hB.mono hb84.out.size)
  clear hB hb84 B81 B82 B83
  have l93 := (B91.out).c0
  have l94 := (B91.out).c1
  have l95 := (B91.out).c2
  go_wp2_with fail
  clear l93 l94 l95
  refine (grid_yes 16 (by decide) false (some ⟨b3, o3, none⟩) sc3 sz3 da3 dc3 dz3 _ ((HI3.out.1.1.below hb92.out).mono hb92.out.size) G3.out).mono ?_
  rintro e v7 ⟨rfl, hB⟩
  have z96 : v6.heap.size ≤ v7.heap.size := hB.size
  have B97 : Hid (Abx v7 (w.heap.size) (.bool false) (.slice (some ⟨b1, o1, none⟩) sz1.length sc1) (.slice da1 dz1.length dc1)) := B89.out.go hB
  have B98 : Hid (Abx v7 (w.heap.size + 1) (.bool false) (.slice (some ⟨b2, o2, none⟩) sz2.length sc2) (.slice da2 dz2.length dc2)) := B90.out.go hB
  have B99 : Hid (Abx v7 (w.heap.size + 1 + 1) (.bool false) (.slice (some ⟨b3, o3, none⟩) sz3.length sc3) (.slice da3 dz3.length dc3)) := B91.out.go hB
  have hb100 : Hid (Below w.heap.size w v7) := hb92.out.trans (hB.mono hb92.out.size)
  clear hB hb92 B89 B90 B91
  have l101 := (B98.out).c0
  have l102 := (B98.out).c1
  have l103 := (B98.out).c2
  have l104 := (B99.out).c0
  have l105 := (B99.out).c1
  have l106 := (B99.out).c2
  go_wp2_with fail
  clear l101 l102 l103 l104 l105 l106
  refine (c2w_ok H2 1 false (some ⟨b2, o2, none⟩) sc2 sz2 sz2.length rfl da2 dc2 dz2 dz2.length rfl false (some ⟨b3, o3, none⟩) sc3 sz3 sz3.length rfl da3 dc3 dz3 dz3.length rfl _ (by unfold In64; decide) x21 x22 ((HI2.out.1.1.below hb100.out).mono hb100.out.size) ((HI2.out.2.1.1.below hb100.out).mono hb100.out.size) HI2.out.2.2.2 x31 x32 ((HI3.out.1.1.below hb100.out).mono hb100.out.size) ((HI3.out.2.1.1.below hb100.out).mono hb100.out.size) HI3.out.2.2.2 sz2 D0 HQ1.out).mono ?_
  rintro e v8 ⟨xa0, xc0, ya0, yc0, rfl, hX0, hY0, hB⟩
  have z107 : v7.heap.size ≤ v8.heap.size := hB.size
  have B108 : Hid (Abx v8 (w.heap.size) (.bool false) (.slice (some ⟨b1, o1, none⟩) sz1.length sc1) (.slice da1 dz1.length dc1)) := B97.out.go hB
  have B109 : Hid (Abx v8 (w.heap.size + 1) (.bool false) (.slice (some ⟨b2, o2, none⟩) sz2.length sc2) (.slice da2 dz2.length dc2)) := B98.out.go hB
  have B110 : Hid (Abx v8 (w.heap.size + 1 + 1) (.bool false) (.slice (some ⟨b3, o3, none⟩) sz3.length sc3) (.slice da3 dz3.length dc3)) := B99.out.go hB
  have hb111 : Hid (Below w.heap.size w v8) := hb100.out.trans (hB.mono hb100.out.size)
  have L112 : Hid (MidC (v7.heap.size) (v8.heap.size) v8 (xa0) (sz2) (xc0)) := hX0.midc
  have L113 : Hid (MidC (v7.heap.size) (v8.heap.size) v8 (ya0) (D0) (yc0)) := hY0.midc
  clear hB hb100 B97 B98 B99 hX0 hY0
  have n114 := Abx.new v8 (.bool false) (.slice xa0 sz2.length xc0) (.slice ya0 D0.length yc0)
  go_wp2_with fail
  obtain ⟨wo115, hwo115⟩ : ∃ wo115, wo115 = (v8.alloc (.cells #[.bool false, .slice xa0 sz2.length xc0, .slice ya0 D0.length yc0] 25)) := ⟨_, rfl⟩
  rw [← hwo115]
  have z116 : v8.heap.size + 1 ≤ wo115.heap.size := by rw [hwo115]; simp only [World.size_alloc]; omega
  have B117 : Hid (Abx wo115 (w.heap.size) (.bool false) (.slice (some ⟨b1, o1, none⟩) sz1.length sc1) (.slice da1 dz1.length dc1)) := by rw [hwo115]; exact (B108.out.al (.cells #[.bool false, .slice xa0 sz2.length xc0, .slice ya0 D0.length yc0] 25))
  have B118 : Hid (Abx wo115 (w.heap.size + 1) (.bool false) (.slice (some ⟨b2, o2, none⟩) sz2.length sc2) (.slice da2 dz2.length dc2)) := by rw [hwo115]; exact (B109.out.al (.cells #[.bool false, .slice xa0 sz2.length xc0, .slice ya0 D0.length yc0] 25))
  have B119 : Hid (Abx wo115 (w.heap.size + 1 + 1) (.bool false) (.slice (some ⟨b3, o3, none⟩) sz3.length sc3) (.slice da3 dz3.length dc3)) := by rw [hwo115]; exact (B110.out.al (.cells #[.bool false, .slice xa0 sz2.length xc0, .slice ya0 D0.length yc0] 25))
  have B120 : Hid (Abx wo115 (v8.heap.size) (.bool false) (.slice xa0 sz2.length xc0) (.slice ya0 D0.length yc0)) := by rw [hwo115]; exact n114
  have L121 : Hid (MidC (v7.heap.size) (v8.heap.size) wo115 (xa0) (sz2) (xc0)) := by rw [hwo115]; exact (L112.out.al (by omega) (.cells #[.bool false, .slice xa0 sz2.length xc0, .slice ya0 D0.length yc0] 25))
  have L122 : Hid (MidC (v7.heap.size) (v8.heap.size) wo115 (ya0) (D0) (yc0)) := by rw [hwo115]; exact (L113.out.al (by omega) (.cells #[.bool false, .slice xa0 sz2.length xc0, .slice ya0 D0.length yc0] 25))
  have hb123 : Hid (Below w.heap.size w wo115) := by rw [hwo115]; exact (hb111.out.alloc (by omega) (.cells #[.bool false, .slice xa0 sz2.length xc0, .slice ya0 D0.length yc0] 25))
  have zwo115 : w.heap.size ≤ wo115.heap.size := hb123.out.size
  clear hwo115 n114 hb111 B108 B109 B110 L112 L113
  have sx11 : wo115.cell? ⟨b1, o1 + 1, none⟩ = some (.int .i64 n1) := (hb123.out.cell (p := ⟨b1, o1 + 1, none⟩) HC1.out.1).trans HC1.out.2.2
  have sx20 : wo115.cell? ⟨b2, o2, none⟩ = some (.int .i64 m2) := (hb123.out.cell (p := ⟨b2, o2, none⟩) HC2.out.1).trans HC2.out.2.1
  have hb0 : Below wo115.heap.size wo115 wo115.drew := (Below.refl _ wo115).drew
  refine anyC_begin (fun w' => w'.cell? ⟨w.heap.size, 0, none⟩ = some (.bool false) ∧ w'.cell? ⟨w.heap.size, 1, none⟩ = some (.slice (some ⟨b1, o1, none⟩) sz1.length sc1) ∧ w'.cell? ⟨w.heap.size, 2, none⟩ = some (.slice da1 dz1.length dc1) ∧ w'.cell? ⟨w.heap.size + 1, 0, none⟩ = some (.bool false) ∧ w'.cell? ⟨w.heap.size + 1, 1, none⟩ = some (.slice (some ⟨b2, o2, none⟩) sz2.length sc2) ∧ w'.cell? ⟨w.heap.size + 1, 2, none⟩ = some (.slice da2 dz2.length dc2) ∧ w'.cell? ⟨b1, o1 + 1, none⟩ = some (.int .i64 n1) ∧ w'.cell? ⟨b2, o2, none⟩ = some (.int .i64 m2)) 9 #[false, false, false, false, false, false, false, false, false] (by kernel_rfl) rfl rfl ?_
  refine anyC_put 0 83 ?rv533 #[true, false, false, false, false, false, false, false, false] rfl rfl rfl (by kernel_rfl) (by kernel_rfl) (by kernel_rfl) (fun _ _ _ h => h) ?ry533 (⟨(B117.out.go hb0).c0, (B117.out.go hb0).c1, (B117.out.go hb0).c2, (B118.out.go hb0).c0, (B118.out.go hb0).c1, (B118.out.go hb0).c2, cell_to sx11 hb0, cell_to sx20 hb0⟩) ?rm533
  case ry533 => first | exact Or.inl ⟨by rfl, by intro w'; go_simp; first | done | rfl⟩
  case rm533 =>
  simp only [Act.put, List.setIfInBounds_toArray, List.set_cons_zero, List.set_cons_succ]
  refine anyC_take 1 84 ?rv534 #[true, true, false, false, false, false, false, false, false] rfl rfl rfl (by kernel_rfl) (by kernel_rfl) (by kernel_rfl) (fun _ _ _ h => h) ?ry534 (⟨(B117.out.go hb0).c0, (B117.out.go hb0).c1, (B117.out.go hb0).c2, (B118.out.go hb0).c0, (B118.out.go hb0).c1, (B118.out.go hb0).c2, cell_to sx11 hb0, cell_to sx20 hb0⟩) ?rm534
  case ry534 => first | exact Or.inl ⟨by rfl, by intro w' hw'; (try dsimp only at hw'); go_simp; first | done | rfl⟩
  case rm534 =>
  simp only [Act.put, List.setIfInBounds_toArray, List.set_cons_zero, List.set_cons_succ]
  refine anyC_put 2 85 ?rv535 #[true, true, true, false, false, false, false, false, false] rfl rfl rfl (by kernel_rfl) (by kernel_rfl) (by kernel_rfl) (fun _ _ _ h => h) ?ry535 (⟨(B117.out.go hb0).c0, (B117.out.go hb0).c1, (B117.out.go hb0).c2, (B118.out.go hb0).c0, (B118.out.go hb0).c1, (B118.out.go hb0).c2, cell_to sx11 hb0, cell_to sx20 hb0⟩) ?rm535
  case ry535 => first | exact Or.inl ⟨by rfl, by intro w'; go_simp; first | done | rfl⟩
  case rm535 =>
  simp only [Act.put, List.setIfInBounds_toArray, List.set_cons_zero, List.set_cons_succ]
  refine anyC_take 3 86 ?rv536 #[true, true, true, true, false, false, false, false, false] rfl rfl rfl (by kernel_rfl) (by kernel_rfl) (by kernel_rfl) (fun _ _ _ h => h) ?ry536 (⟨(B117.out.go hb0).c0, (B117.out.go hb0).c1, (B117.out.go hb0).c2, (B118.out.go hb0).c0, (B118.out.go hb0).c1, (B118.out.go hb0).c2, cell_to sx11 hb0, cell_to sx20 hb0⟩) ?rm536
  case ry536 => first | exact Or.inl ⟨by rfl, by intro w' hw'; (try dsimp only at hw'); go_simp; first | done | rfl⟩
  case rm536 =>
  simp only [Act.put, List.setIfInBounds_toArray, List.set_cons_zero, List.set_cons_succ]
  refine anyC_put 4 87 ?rv537 #[true, true, true, true, true, false, false, false, false] rfl rfl rfl (by kernel_rfl) (by kernel_rfl) (by kernel_rfl) (fun _ _ _ h => h) ?ry537 (⟨(B117.out.go hb0).c0, (B117.out.go hb0).c1, (B117.out.go hb0).c2, (B118.out.go hb0).c0, (B118.out.go hb0).c1, (B118.out.go hb0).c2, cell_to sx11 hb0, cell_to sx20 hb0⟩) ?rm537
  case ry537 => first | exact Or.inl ⟨by rfl, by intro w'; go_simp; first | done | rfl⟩
  case rm537 =>
  simp only [Act.put, List.setIfInBounds_toArray, List.set_cons_zero, List.set_cons_succ]
  refine anyC_take 5 88 ?rv538 #[true, true, true, true, true, true, false, false, false] rfl rfl rfl (by kernel_rfl) (by kernel_rfl) (by kernel_rfl) (fun _ _ _ h => h) ?ry538 (⟨(B117.out.go hb0).c0, (B117.out.go hb0).c1, (B117.out.go hb0).c2, (B118.out.go hb0).c0, (B118.out.go hb0).c1, (B118.out.go hb0).c2, cell_to sx11 hb0, cell_to sx20 hb0⟩) ?rm538
  case ry538 => first | exact Or.inl ⟨by rfl, by intro w' hw'; (try dsimp only at hw'); go_simp; first | done | rfl⟩
  case rm538 =>
  simp only [Act.put, List.setIfInBounds_toArray, List.set_cons_zero, List.set_cons_succ]
  refine anyC_put 6 89 ?rv539 #[true, true, true, true, true, true, true, false, false] rfl rfl rfl (by kernel_rfl) (by kernel_rfl) (by kernel_rfl) (fun _ _ _ h => h) ?ry539 (⟨(B117.out.go hb0).c0, (B117.out.go hb0).c1, (B117.out.go hb0).c2, (B118.out.go hb0).c0, (B118.out.go hb0).c1, (B118.out.go hb0).c2, cell_to sx11 hb0, cell_to sx20 hb0⟩) ?rm539
  case ry539 => first | exact Or.inl ⟨by rfl, by intro w'; go_simp; first | done | rfl⟩
  case rm539 =>
  simp only [Act.put, List.setIfInBounds_toArray, List.set_cons_zero, List.set_cons_succ]
  refine anyC_take 7 90 ?rv540 #[true, true, true, true, true, true, true, true, false] rfl rfl rfl (by kernel_rfl) (by kernel_rfl) (by kernel_rfl) (fun _ _ _ h => h) ?ry540 (⟨(B117.out.go hb0).c0, (B117.out.go hb0).c1, (B117.out.go hb0).c2, (B118.out.go hb0).c0, (B118.out.go hb0).c1, (B118.out.go hb0).c2, cell_to sx11 hb0, cell_to sx20 hb0⟩) ?rm540
  case ry540 => first | exact Or.inl ⟨by rfl, by intro w' hw'; (try dsimp only at hw'); go_simp; first | done | rfl⟩
  case rm540 =>
  simp only [Act.put, List.setIfInBounds_toArray, List.set_cons_zero, List.set_cons_succ]
  refine anyC_put 8 91 ?rv541 #[true, true, true, true, true, true, true, true, true] rfl rfl rfl (by kernel_rfl) (by kernel_rfl) (by kernel_rfl) (fun _ _ _ h => h) ?ry541 (⟨(B117.out.go hb0).c0, (B117.out.go hb0).c1, (B117.out.go hb0).c2, (B118.out.go hb0).c0, (B118.out.go hb0).c1, (B118.out.go hb0).c2, cell_to sx11 hb0, cell_to sx20 hb0⟩) ?rm541
  case ry541 => first | exact Or.inl ⟨by rfl, by intro w'; go_simp; first | done | rfl⟩
  case rm541 =>
  simp only [Act.put, List.setIfInBounds_toArray, List.set_cons_zero, List.set_cons_succ]
  refine anyC_done (by kernel_rfl) ?_
  have hB := hb0
  have z124 : wo115.heap.size ≤ wo115.drew.heap.size := hB.size
  have B125 : Hid (Abx wo115.drew (w.heap.size) (.bool false) (.slice (some ⟨b1, o1, none⟩) sz1.length sc1) (.slice da1 dz1.length dc1)) := B117.out.go hB
  have B126 : Hid (Abx wo115.drew (w.heap.size + 1) (.bool false) (.slice (some ⟨b2, o2, none⟩) sz2.length sc2) (.slice da2 dz2.length dc2)) := B118.out.go hB
  have B127 : Hid (Abx wo115.drew (w.heap.size + 1 + 1) (.bool false) (.slice (some ⟨b3, o3, none⟩) sz3.length sc3) (.slice da3 dz3.length dc3)) := B119.out.go hB
  have B128 : Hid (Abx wo115.drew (v8.heap.size) (.bool false) (.slice xa0 sz2.length xc0) (.slice ya0 D0.length yc0)) := B120.out.go hB
  have L129 : Hid (MidC (v7.heap.size) (v8.heap.size) wo115.drew (xa0) (sz2) (xc0)) := L121.out.go (by omega) hB
  have L130 : Hid (MidC (v7.heap.size) (v8.heap.size) wo115.drew (ya0) (D0) (yc0)) := L122.out.go (by omega) hB
  have hb131 : Hid (Below w.heap.size w wo115.drew) := hb123.out.trans (hB.mono hb123.out.size)
  clear hB hb123 B117 B118 B119 B120 L121 L122
  go_wp2_with fail
  have sx21 : wo115.drew.cell? ⟨b2, o2 + 1, none⟩ = some (.int .i64 n2) := (hb131.out.cell (p := ⟨b2, o2 + 1, none⟩) HC2.out.1).trans HC2.out.2.2
  have sx10 : wo115.drew.cell? ⟨b1, o1, none⟩ = some (.int .i64 m1) := (hb131.out.cell (p := ⟨b1, o1, none⟩) HC1.out.1).trans HC1.out.2.1
  have hb0b : Below wo115.drew.heap.size wo115.drew wo115.drew.drew := (Below.refl _ wo115.drew).drew
  refine anyC_begin (fun w' => w'.cell? ⟨w.heap.size, 0, none⟩ = some (.bool false) ∧ w'.cell? ⟨w.heap.size, 1, none⟩ = some (.slice (some ⟨b1, o1, none⟩) sz1.length sc1) ∧ w'.cell? ⟨w.heap.size, 2, none⟩ = some (.slice da1 dz1.length dc1) ∧ w'.cell? ⟨w.heap.size + 1, 0, none⟩ = some (.bool false) ∧ w'.cell? ⟨w.heap.size + 1, 1, none⟩ = some (.slice (some ⟨b2, o2, none⟩) sz2.length sc2) ∧ w'.cell? ⟨w.heap.size + 1, 2, none⟩ = some (.slice da2 dz2.length dc2) ∧ w'.cell? ⟨b2, o2 + 1, none⟩ = some (.int .i64 n2) ∧ w'.cell? ⟨b1, o1, none⟩ = some (.int .i64 m1)) 9 #[false, false, false, false, false, false, false, false, false] (by kernel_rfl) rfl rfl ?_
  refine anyC_put 0 131 ?rv542 #[true, false, false, false, false, false, false, false, false] rfl rfl rfl (by kernel_rfl) (by kernel_rfl) (by kernel_rfl) (fun _ _ _ h => h) ?ry542 (⟨(B125.out.go hb0b).c0, (B125.out.go hb0b).c1, (B125.out.go hb0b).c2, (B126.out.go hb0b).c0, (B126.out.go hb0b).c1, (B126.out.go hb0b).c2, cell_to sx21 hb0b, cell_to sx10 hb0b⟩) ?rm542
  case ry542 => first | exact Or.inl ⟨by rfl, by intro w'; go_simp; first | done | rfl⟩
  case rm542 =>
  simp only [Act.put, List.setIfInBounds_toArray, List.set_cons_zero, List.set_cons_succ]
  refine anyC_take 1 132 ?rv543 #[true, true, false, false, false, false, false, false, false] rfl rfl rfl (by kernel_rfl) (by kernel_rfl) (by kernel_rfl) (fun _ _ _ h => h) ?ry543 (⟨(B125.out.go hb0b).c0, (B125.out.go hb0b).c1, (B125.out.go hb0b).c2, (B126.out.go hb0b).c0, (B126.out.go hb0b).c1, (B126.out.go hb0b).c2, cell_to sx21 hb0b, cell_to sx10 hb0b⟩) ?rm543
  case ry543 => first | exact Or.inl ⟨by rfl, by intro w' hw'; (try dsimp only at hw'); go_simp; first | done | rfl⟩
  case rm543 =>
  simp only [Act.put, List.setIfInBounds_toArray, List.set_cons_zero, List.set_cons_succ]
  refine anyC_put 2 133 ?rv544 #[true, true, true, false, false, false, false, false, false] rfl rfl rfl (by kernel_rfl) (by kernel_rfl) (by kernel_rfl) (fun _ _ _ h => h) ?ry544 (⟨(B125.out.go hb0b).c0, (B125.out.go hb0b).c1, (B125.out.go hb0b).c2, (B126.out.go hb0b).c0, (B126.out.go hb0b).c1, (B126.out.go hb0b).c2, cell_to sx21 hb0b, cell_to sx10 hb0b⟩) ?rm544
  case ry544 => first | exact Or.inl ⟨by rfl, by intro w'; go_simp; first | done | rfl⟩
  case rm544 =>
  simp only [Act.put, List.setIfInBounds_toArray, List.set_cons_zero, List.set_cons_succ]
  refine anyC_take 3 134 ?rv545 #[true, true, true, true, false, false, false, false, false] rfl rfl rfl (by kernel_rfl) (by kernel_rfl) (by kernel_rfl) (fun _ _ _ h => h) ?ry545 (⟨(B125.out.go hb0b).c0, (B125.out.go hb0b).c1, (B125.out.go hb0b).c2, (B126.out.go hb0b).c0, (B126.out.go hb0b).c1, (B126.out.go hb0b).c2, cell_to sx21 hb0b, cell_to sx10 hb0b⟩) ?rm545
  case ry545 => first | exact Or.inl ⟨by rfl, by intro w' hw'; (try dsimp only at hw'); go_simp; first | done | rfl⟩
  case rm545 =>
  simp only [Act.put, List.setIfInBounds_toArray, List.set_cons_zero, List.set_cons_succ]
  refine anyC_put 4 135 ?rv546 #[true, true, true, true, true, false, false, false, false] rfl rfl rfl (by kernel_rfl) (by kernel_rfl) (by kernel_rfl) (fun _ _ _ h => h) ?ry546 (⟨(B125.out.go hb0b).c0, (B125.out.go hb0b).c1, (B125.out.go hb0b).c2, (B126.out.go hb0b).c0, (B126.out.go hb0b).c1, (B126.out.go hb0b).c2, cell_to sx21 hb0b, cell_to sx10 hb0b⟩) ?rm546
  case ry546 => first | exact Or.inl ⟨by rfl, by intro w'; go_simp; first | done | rfl⟩
  case rm546 =>
  simp only [Act.put, List.setIfInBounds_toArray, List.set_cons_zero, List.set_cons_succ]
  refine anyC_take 5 136 ?rv547 #[true, true, true, true, true, true, false, false, false] rfl rfl rfl (by kernel_rfl) (by kernel_rfl) (by kernel_rfl) (fun _ _ _ h => h) ?ry547 (⟨(B125.out.go hb0b).c0, (B125.out.go hb0b).c1, (B125.out.go hb0b).c2, (B126.out.go hb0b).c0, (B126.out.go hb0b).c1, (B126.out.go hb0b).c2, cell_to sx21 hb0b, cell_to sx10 hb0b⟩) ?rm547
  case ry547 => first | exact Or.inl ⟨by rfl, by intro w' hw'; (try dsimp only at hw'); go_simp; first | done | rfl⟩
  case rm547 =>
  simp only [Act.put, List.setIfInBounds_toArray, List.set_cons_zero, List.set_cons_succ]
  refine anyC_put 6 137 ?rv548 #[true, true, true, true, true, true, true, false, false] rfl rfl rfl (by kernel_rfl) (by kernel_rfl) (by kernel_rfl) (fun _ _ _ h => h) ?ry548 (⟨(B125.out.go hb0b).c0, (B125.out.go hb0b).c1, (B125.out.go hb0b).c2, (B126.out.go hb0b).c0, (B126.out.go hb0b).c1, (B126.out.go hb0b).c2, cell_to sx21 hb0b, cell_to sx10 hb0b⟩) ?rm548
  case ry548 => first | exact Or.inl ⟨by rfl, by intro w'; go_simp; first | done | rfl⟩
  case rm548 =>
  simp only [Act.put, List.setIfInBounds_toArray, List.set_cons_zero, List.set_cons_succ]
  refine anyC_take 7 138 ?rv549 #[true, true, true, true, true, true, true, true, false] rfl rfl rfl (by kernel_rfl) (by kernel_rfl) (by kernel_rfl) (fun _ _ _ h => h) ?ry549 (⟨(B125.out.go hb0b).c0, (B125.out.go hb0b).c1, (B125.out.go hb0b).c2, (B126.out.go hb0b).c0, (B126.out.go hb0b).c1, (B126.out.go hb0b).c2, cell_to sx21 hb0b, cell_to sx10 hb0b⟩) ?rm549
  case ry549 => first | exact Or.inl ⟨by rfl, by intro w' hw'; (try dsimp only at hw'); go_simp; first | done | rfl⟩
  case rm549 =>
  simp only [Act.put, List.setIfInBounds_toArray, List.set_cons_zero, List.set_cons_succ]
  refine anyC_put 8 139 ?rv550 #[true, true, true, true, true, true, true, true, true] rfl rfl rfl (by kernel_rfl) (by kernel_rfl) (by kernel_rfl) (fun _ _ _ h => h) ?ry550 (⟨(B125.out.go hb0b).c0, (B125.out.go hb0b).c1, (B125.out.go hb0b).c2, (B126.out.go hb0b).c0, (B126.out.go hb0b).c1, (B126.out.go hb0b).c2, cell_to sx21 hb0b, cell_to sx10 hb0b⟩) ?rm550
  case ry550 => first | exact Or.inl ⟨by rfl, by intro w'; go_simp; first | done | rfl⟩
  case rm550 =>
  simp only [Act.put, List.setIfInBounds_toArray, List.set_cons_zero, List.set_cons_succ]
  refine anyC_done (by kernel_rfl) ?_
  have hB := hb0b
  have z132 : wo115.drew.heap.size ≤ wo115.drew.drew.heap.size := hB.size
  have B133 : Hid (Abx wo115.drew.drew (w.heap.size) (.bool false) (.slice (some ⟨b1, o1, none⟩) sz1.length sc1) (.slice da1 dz1.length dc1)) := B125.out.go hB
  have B134 : Hid (Abx wo115.drew.drew (w.heap.size + 1) (.bool false) (.slice (some ⟨b2, o2, none⟩) sz2.length sc2) (.slice da2 dz2.length dc2)) := B126.out.go hB
  have B135 : Hid (Abx wo115.drew.drew (w.heap.size + 1 + 1) (.bool false) (.slice (some ⟨b3, o3, none⟩) sz3.length sc3) (.slice da3 dz3.length dc3)) := B127.out.go hB
  have B136 : Hid (Abx wo115.drew.drew (v8.heap.size) (.bool false) (.slice xa0 sz2.length xc0) (.slice ya0 D0.length yc0)) := B128.out.go hB
  have L137 : Hid (MidC (v7.heap.size) (v8.heap.size) wo115.drew.drew (xa0) (sz2) (xc0)) := L129.out.go (by omega) hB
  have L138 : Hid (MidC (v7.heap.size) (v8.heap.size) wo115.drew.drew (ya0) (D0) (yc0)) := L130.out.go (by omega) hB
  have hb139 : Hid (Below w.heap.size w wo115.drew.drew) := hb131.out.trans (hB.mono hb131.out.size)
  clear hB hb131 B125 B126 B127 B128 L129 L130
  have l140 := (B136.out).c0
  have l141 := (B136.out).c1
  have l142 := (B136.out).c2
  have l143 := (B133.out).c0
  have l144 := (B133.out).c1
  have l145 := (B133.out).c2
  go_wp2_with fail
  clear l140 l141 l142 l143 l144 l145
  refine (niw_ok 1 3 false xa0 xc0 sz2 sz2.length rfl ya0 yc0 D0 D0.length rfl false (some ⟨b1, o1, none⟩) sc1 sz1 sz1.length rfl da1 dc1 dz1 dz1.length rfl _ (by unfold In64; decide) (by unfold In64; decide) (by omega) (by omega) (L137.out.is (by omega)) (L138.out.is (by omega)).1 HQ2.out x11 x12 ((HI1.out.1.below hb139.out).mono hb139.out.size) ((HI1.out.2.1.1.below hb139.out).mono hb139.out.size) HI1.out.2.2.2 S' DX' HNi HL1.out).mono ?_
  rintro e v9 ⟨xa61, xc61, ya61, yc61, rfl, hX61, hY61, hB⟩
  have z146 : wo115.drew.drew.heap.size ≤ v9.heap.size := hB.size
  have B147 : Hid (Abx v9 (w.heap.size) (.bool false) (.slice (some ⟨b1, o1, none⟩) sz1.length sc1) (.slice da1 dz1.length dc1)) := B133.out.go hB
  have B148 : Hid (Abx v9 (w.heap.size + 1) (.bool false) (.slice (some ⟨b2, o2, none⟩) sz2.length sc2) (.slice da2 dz2.length dc2)) := B134.out.go hB
  have B149 : Hid (Abx v9 (w.heap.size + 1 + 1) (.bool false) (.slice (some ⟨b3, o3, none⟩) sz3.length sc3) (.slice da3 dz3.length dc3)) := B135.out.go hB
  have B150 : Hid (Abx v9 (v8.heap.size) (.bool false) (.slice xa0 sz2.length xc0) (.slice ya0 D0.length yc0)) := B136.out.go hB
  have L151 : Hid (MidC (v7.heap.size) (v8.heap.size) v9 (xa0) (sz2) (xc0)) := L137.out.go (by omega) hB
  have L152 : Hid (MidC (v7.heap.size) (v8.heap.size) v9 (ya0) (D0) (yc0)) := L138.out.go (by omega) hB
  have hb153 : Hid (Below w.heap.size w v9) := hb139.out.trans (hB.mono hb139.out.size)
  have L154 : Hid (MidC (wo115.drew.drew.heap.size) (v9.heap.size) v9 (xa61) (S') (xc61)) := hX61.midc
  have L155 : Hid (MidC (wo115.drew.drew.heap.size) (v9.heap.size) v9 (ya61) (DX') (yc61)) := hY61.midc
  clear hB hb139 B133 B134 B135 B136 L137 L138 hX61 hY61
  have n156 := Abx.new v9 (.bool false) (.slice xa61 S'.length xc61) (.slice ya61 DX'.length yc61)
  have l157 := ((B148.out.al (.cells #[.bool false, .slice xa61 S'.length xc61, .slice ya61 DX'.length yc61] 25))).c0
  have l158 := ((B148.out.al (.cells #[.bool false, .slice xa61 S'.length xc61, .slice ya61 DX'.length yc61] 25))).c1
  have l159 := ((B148.out.al (.cells #[.bool false, .slice xa61 S'.length xc61, .slice ya61 DX'.length yc61] 25))).c2
  have l160 := ((B147.out.al (.cells #[.bool false, .slice xa61 S'.length xc61, .slice ya61 DX'.length yc61] 25))).c0
  have l161 := ((B147.out.al (.cells #[.bool false, .slice xa61 S'.length xc61, .slice ya61 DX'.length yc61] 25))).c1
  have l162 := ((B147.out.al (.cells #[.bool false, .slice xa61 S'.length xc61, .slice ya61 DX'.length yc61] 25))).c2
  go_wp2_with fail
  obtain ⟨wo163, hwo163⟩ : ∃ wo163, wo163 = (v9.alloc (.cells #[.bool false, .slice xa61 S'.length xc61, .slice ya61 DX'.length yc61] 25)) := ⟨_, rfl⟩
  rw [← hwo163]
  have z164 : v9.heap.size + 1 ≤ wo163.heap.size := by rw [hwo163]; simp only [World.size_alloc]; omega
  have B165 : Hid (Abx wo163 (w.heap.size) (.bool false) (.slice (some ⟨b1, o1, none⟩) sz1.length sc1) (.slice da1 dz1.length dc1)) := by rw [hwo163]; exact (B147.out.al (.cells #[.bool false, .slice xa61 S'.length xc61, .slice ya61 DX'.length yc61] 25))
  have B166 : Hid (Abx wo163 (w.heap.size + 1) (.bool false) (.slice (some ⟨b2, o2, none⟩) sz2.length sc2) (.slice da2 dz2.length dc2)) := by rw [hwo163]; exact (B148.out.al (.cells #[.bool false, .slice xa61 S'.length xc61, .slice ya61 DX'.length yc61] 25))
  have B167 : Hid (Abx wo163 (w.heap.size + 1 + 1) (.bool false) (.slice (some ⟨b3, o3, none⟩) sz3.length sc3) (.slice da3 dz3.length dc3)) := by rw [hwo163]; exact (B149.out.al (.cells #[.bool false, .slice xa61 S'.length xc61, .slice ya61 DX'.length yc61] 25))
  have B168 : Hid (Abx wo163 (v8.heap.size) (.bool false) (.slice xa0 sz2.length xc0) (.slice ya0 D0.length yc0)) := by rw [hwo163]; exact (B150.out.al (.cells #[.bool false, .slice xa61 S'.length xc61, .slice ya61 DX'.length yc61] 25))
  have B169 : Hid (Abx wo163 (v9.heap.size) (.bool false) (.slice xa61 S'.length xc61) (.slice ya61 DX'.length yc61)) := by rw [hwo163]; exact n156
  have L170 : Hid (MidC (v7.heap.size) (v8.heap.size) wo163 (xa0) (sz2) (xc0)) := by rw [hwo163]; exact (L151.out.al (by omega) (.cells #[.bool false, .slice xa61 S'.length xc61, .slice ya61 DX'.length yc61] 25))
  have L171 : Hid (MidC (v7.heap.size) (v8.heap.size) wo163 (ya0) (D0) (yc0)) := by rw [hwo163]; exact (L152.out.al (by omega) (.cells #[.bool false, .slice xa61 S'.length xc61, .slice ya61 DX'.length yc61] 25))
  have L172 : Hid (MidC (wo115.drew.drew.heap.size) (v9.heap.size) wo163 (xa61) (S') (xc61)) := by rw [hwo163]; exact (L154.out.al (by omega) (.cells #[.bool false, .slice xa61 S'.length xc61, .slice ya61 DX'.length yc61] 25))
  have L173 : Hid (MidC (wo115.drew.drew.heap.size) (v9.heap.size) wo163 (ya61) (DX') (yc61)) := by rw [hwo163]; exact (L155.out.al (by omega) (.cells #[.bool false, .slice xa61 S'.length xc61, .slice ya61 DX'.length yc61] 25))
  have hb174 : Hid (Below w.heap.size w wo163) := by rw [hwo163]; exact (hb153.out.alloc (by omega) (.cells #[.bool false, .slice xa61 S'.length xc61, .slice ya61 DX'.length yc61] 25))
  have zwo163 : w.heap.size ≤ wo163.heap.size := hb174.out.size
  clear hwo163 n156 l157 l158 l159 l160 l161 l162 hb153 B147 B148 B149 B150 L151 L152 L154 L155
  refine (niw_ok 1 3 false (some ⟨b2, o2, none⟩) sc2 sz2 sz2.length rfl da2 dc2 dz2 dz2.length rfl false (some ⟨b1, o1, none⟩) sc1 sz1 sz1.length rfl da1 dc1 dz1 dz1.length rfl _ (by unfold In64; decide) (by unfold In64; decide) x21 x22 ((HI2.out.1.below hb174.out).mono hb174.out.size) ((HI2.out.2.1.1.below hb174.out).mono hb174.out.size) HI2.out.2.2.2 x11 x12 ((HI1.out.1.below hb174.out).mono hb174.out.size) ((HI1.out.2.1.1.below hb174.out).mono hb174.out.size) HI1.out.2.2.2 S' DP' HNi HL2.out).mono ?_
  rintro e v10 ⟨xa62, xc62, ya62, yc62, rfl, hX62, hY62, hB⟩
  have z175 : wo163.heap.size ≤ v10.heap.size := hB.size
  have B176 : Hid (Abx v10 (w.heap.size) (.bool false) (.slice (some ⟨b1, o1, none⟩) sz1.length sc1) (.slice da1 dz1.length dc1)) := B165.out.go hB
  have B177 : Hid (Abx v10 (w.heap.size + 1) (.bool false) (.slice (some ⟨b2, o2, none⟩) sz2.length sc2) (.slice da2 dz2.length dc2)) := B166.out.go hB
  have B178 : Hid (Abx v10 (w.heap.size + 1 + 1) (.bool false) (.slice (some ⟨b3, o3, none⟩) sz3.length sc3) (.slice da3 dz3.length dc3)) := B167.out.go hB
  have B179 : Hid (Abx v10 (v8.heap.size) (.bool false) (.slice xa0 sz2.length xc0) (.slice ya0 D0.length yc0)) := B168.out.go hB
  have B180 : Hid (Abx v10 (v9.heap.size) (.bool false) (.slice xa61 S'.length xc61) (.slice ya61 DX'.length yc61)) := B169.out.go hB
  have L181 : Hid (MidC (v7.heap.size) (v8.heap.size) v10 (xa0) (sz2) (xc0)) := L170.out.go (by omega) hB
  have L182 : Hid (MidC (v7.heap.size) (v8.heap.size) v10 (ya0) (D0) (yc0)) := L171.out.go (by omega) hB
  have L183 : Hid (MidC (wo115.drew.drew.heap.size) (v9.heap.size) v10 (xa61) (S') (xc61)) := L172.out.go (by omega) hB
  have L184 : Hid (MidC (wo115.drew.drew.heap.size) (v9.heap.size) v10 (ya61) (DX') (yc61)) := L173.out.go (by omega) hB
  have hb185 : Hid (Below w.heap.size w v10) := hb174.out.trans (hB.mono hb174.out.size)
  have L186 : Hid (MidC (wo163.heap.size) (v10.heap.size) v10 (xa62) (S') (xc62)) := hX62.midc
  have L187 : Hid (MidC (wo163.heap.size) (v10.heap.size) v10 (ya62) (DP') (yc62)) := hY62.midc
  clear hB hb174 B165 B166 B167 B168 B169 L170 L171 L172 L173 hX62 hY62
  have n188 := Abx.new v10 (.bool false) (.slice xa62 S'.length xc62) (.slice ya62 DP'.length yc62)
  have l189 := ((B178.out.al (.cells #[.bool false, .slice xa62 S'.length xc62, .slice ya62 DP'.length yc62] 25))).c0
  have l190 := ((B178.out.al (.cells #[.bool false, .slice xa62 S'.length xc62, .slice ya62 DP'.length yc62] 25))).c1
  have l191 := ((B178.out.al (.cells #[.bool false, .slice xa62 S'.length xc62, .slice ya62 DP'.length yc62] 25))).c2
  have l192 := ((B176.out.al (.cells #[.bool false, .slice xa62 S'.length xc62, .slice ya62 DP'.length yc62] 25))).c0
  have l193 := ((B176.out.al (.cells #[.bool false, .slice xa62 S'.length xc62, .slice ya62 DP'.length yc62] 25))).c1
  have l194 := ((B176.out.al (.cells #[.bool false, .slice xa62 S'.length xc62, .slice ya62 DP'.length yc62] 25))).c2
  go_wp2_with fail
  obtain ⟨wo195, hwo195⟩ : ∃ wo195, wo195 = (v10.alloc (.cells #[.bool false, .slice xa62 S'.length xc62, .slice ya62 DP'.length yc62] 25)) := ⟨_, rfl⟩
  rw [← hwo195]
  have z196 : v10.heap.size + 1 ≤ wo195.heap.size := by rw [hwo195]; simp only [World.size_alloc]; omega
  have B197 : Hid (Abx wo195 (w.heap.size) (.bool false) (.slice (some ⟨b1, o1, none⟩) sz1.length sc1) (.slice da1 dz1.length dc1)) := by rw [hwo195]; exact (B176.out.al (.cells #[.bool false, .slice xa62 S'.length xc62, .slice ya62 DP'.length yc62] 25))
  have B198 : Hid (Abx wo195 (w.heap.size + 1) (.bool false) (.slice (some ⟨b2, o2, none⟩) sz2.length sc2) (.slice da2 dz2.length dc2)) := by rw [hwo195]; exact (B177.out.al (.cells #[.bool false, .slice xa62 S'.length xc62, .slice ya62 DP'.length yc62] 25))
  have B199 : Hid (Abx wo195 (w.heap.size + 1 + 1) (.bool false) (.slice (some ⟨b3, o3, none⟩) sz3.length sc3) (.slice da3 dz3.length dc3)) := by rw [hwo195]; exact (B178.out.al (.cells #[.bool false, .slice xa62 S'.length xc62, .slice ya62 DP'.length yc62] 25))
  have B200 : Hid (Abx wo195 (v8.heap.size) (.bool false) (.slice xa0 sz2.length xc0) (.slice ya0 D0.length yc0)) := by rw [hwo195]; exact (B179.out.al (.cells #[.bool false, .slice xa62 S'.length xc62, .slice ya62 DP'.length yc62] 25))
  have B201 : Hid (Abx wo195 (v9.heap.size) (.bool false) (.slice xa61 S'.length xc61) (.slice ya61 DX'.length yc61)) := by rw [hwo195]; exact (B180.out.al (.cells #[.bool false, .slice xa62 S'.length xc62, .slice ya62 DP'.length yc62] 25))
  have B202 : Hid (Abx wo195 (v10.heap.size) (.bool false) (.slice xa62 S'.length xc62) (.slice ya62 DP'.length yc62)) := by rw [hwo195]; exact n188
  have L203 : Hid (MidC (v7.heap.size) (v8.heap.size) wo195 (xa0) (sz2) (xc0)) := by rw [hwo195]; exact (L181.out.al (by omega) (.cells #[.bool false, .slice xa62 S'.length xc62, .slice ya62 DP'.length yc62] 25))
  have L204 : Hid (MidC (v7.heap.size) (v8.heap.size) wo195 (ya0) (D0) (yc0)) := by rw [hwo195]; exact (L182.out.al (by omega) (.cells #[.bool false, .slice xa62 S'.length xc62, .slice ya62 DP'.length yc62] 25))
  have L205 : Hid (MidC (wo115.drew.drew.heap.size) (v9.heap.size) wo195 (xa61) (S') (xc61)) := by rw [hwo195]; exact (L183.out.al (by omega) (.cells #[.bool false, .slice xa62 S'.length xc62, .slice ya62 DP'.length yc62] 25))
  have L206 : Hid (MidC (wo115.drew.drew.heap.size) (v9.heap.size) wo195 (ya61) (DX') (yc61)) := by rw [hwo195]; exact (L184.out.al (by omega) (.cells #[.bool false, .slice xa62 S'.length xc62, .slice ya62 DP'.length yc62] 25))
  have L207 : Hid (MidC (wo163.heap.size) (v10.heap.size) wo195 (xa62) (S') (xc62)) := by rw [hwo195]; exact (L186.out.al (by omega) (.cells #[.bool false, .slice xa62 S'.length xc62, .slice ya62 DP'.length yc62] 25))
  have L208 : Hid (MidC (wo163.heap.size) (v10.heap.size) wo195 (ya62) (DP') (yc62)) := by rw [hwo195]; exact (L187.out.al (by omega) (.cells #[.bool false, .slice xa62 S'.length xc62, .slice ya62 DP'.length yc62] 25))
  have hb209 : Hid (Below w.heap.size w wo195) := by rw [hwo195]; exact (hb185.out.alloc (by omega) (.cells #[.bool false, .slice xa62 S'.length xc62, .slice ya62 DP'.length yc62] 25))
  have zwo195 : w.heap.size ≤ wo195.heap.size := hb209.out.size
  clear hwo195 n188 l189 l190 l191 l192 l193 l194 hb185 B176 B177 B178 B179 B180 L181 L182 L183 L184 L186 L187
  refine (niw_ok 1 3 false (some ⟨b3, o3, none⟩) sc3 sz3 sz3.length rfl da3 dc3 dz3 dz3.length rfl false (some ⟨b1, o1, none⟩) sc1 sz1 sz1.length rfl da1 dc1 dz1 dz1.length rfl _ (by unfold In64; decide) (by unfold In64; decide) x31 x32 ((HI3.out.1.below hb209.out).mono hb209.out.size) ((HI3.out.2.1.1.below hb209.out).mono hb209.out.size) HI3.out.2.2.2 x11 x12 ((HI1.out.1.below hb209.out).mono hb209.out.size) ((HI1.out.2.1.1.below hb209.out).mono hb209.out.size) HI1.out.2.2.2 S' DQ' HNi HL3.out).mono ?_
  rintro e v11 ⟨xa63, xc63, ya63, yc63, rfl, hX63, hY63, hB⟩
  have z210 : wo195.heap.size ≤ v11.heap.size := hB.size
  have B211 : Hid (Abx v11 (w.heap.size) (.bool false) (.slice (some ⟨b1, o1, none⟩) sz1.length sc1) (.slice da1 dz1.length dc1)) := B197.out.go hB
  have B212 : Hid (Abx v11 (w.heap.size + 1) (.bool false) (.slice (some ⟨b2, o2, none⟩) sz2.length sc2) (.slice da2 dz2.length dc2)) := B198.out.go hB
  have B213 : Hid (Abx v11 (w.heap.size + 1 + 1) (.bool false) (.slice (some ⟨b3, o3, none⟩) sz3.length sc3) (.slice da3 dz3.length dc3)) := B199.out.go hB
  have B214 : Hid (Abx v11 (v8.heap.size) (.bool false) (.slice xa0 sz2.length xc0) (.slice ya0 D0.length yc0)) := B200.out.go hB
  have B215 : Hid (Abx v11 (v9.heap.size) (.bool false) (.slice xa61 S'.length xc61) (.slice ya61 DX'.length yc61)) := B201.out.go hB
  have B216 : Hid (Abx v11 (v10.heap.size) (.bool false) (.slice xa62 S'.length xc62) (.slice ya62 DP'.length yc62)) := B202.out.go hB
  have L217 : Hid (MidC (v7.heap.size) (v8.heap.size) v11 (xa0) (sz2) (xc0)) := L203.out.go (by omega) hB
  have L218 : Hid (MidC (v7.heap.size) (v8.heap.size) v11 (ya0) (D0) (yc0)) := L204.out.go (by omega) hB
  have L219 : Hid (MidC (wo115.drew.drew.heap.size) (v9.heap.size) v11 (xa61) (S') (xc61)) := L205.out.go (by omega) hB
  have L220 : Hid (MidC (wo115.drew.drew.heap.size) (v9.heap.size) v11 (ya61) (DX') (yc61)) := L206.out.go (by omega) hB
  have L221 : Hid (MidC (wo163.heap.size) (v10.heap.size) v11 (xa62) (S') (xc62)) := L207.out.go (by omega) hB
  have L222 : Hid (MidC (wo163.heap.size) (v10.heap.size) v11 (ya62) (DP') (yc62)) := L208.out.go (by omega) hB
  have hb223 : Hid (Below w.heap.size w v11) := hb209.out.trans (hB.mono hb209.out.size)
  have L224 : Hid (MidC (wo195.heap.size) (v11.heap.size) v11 (xa63) (S') (xc63)) := hX63.midc
  have L225 : Hid (MidC (wo195.heap.size) (v11.heap.size) v11 (ya63) (DQ') (yc63)) := hY63.midc
  clear hB hb209 B197 B198 B199 B200 B201 B202 L203 L204 L205 L206 L207 L208 hX63 hY63
  have n226 := Abx.new v11 (.bool false) (.slice xa63 S'.length xc63) (.slice ya63 DQ'.length yc63)
  have l227 := ((B216.out.al (.cells #[.bool false, .slice xa63 S'.length xc63, .slice ya63 DQ'.length yc63] 25))).c0
  have l228 := ((B216.out.al (.cells #[.bool false, .slice xa63 S'.length xc63, .slice ya63 DQ'.length yc63] 25))).c1
  have l229 := ((B216.out.al (.cells #[.bool false, .slice xa63 S'.length xc63, .slice ya63 DQ'.length yc63] 25))).c2
  have l230 := (n226).c0
  have l231 := (n226).c1
  have l232 := (n226).c2
  go_wp2_with fail
  obtain ⟨wo233, hwo233⟩ : ∃ wo233, wo233 = (v11.alloc (.cells #[.bool false, .slice xa63 S'.length xc63, .slice ya63 DQ'.length yc63] 25)) := ⟨_, rfl⟩
  rw [← hwo233]
  have z234 : v11.heap.size + 1 ≤ wo233.heap.size := by rw [hwo233]; simp only [World.size_alloc]; omega
  have B235 : Hid (Abx wo233 (w.heap.size) (.bool false) (.slice (some ⟨b1, o1, none⟩) sz1.length sc1) (.slice da1 dz1.length dc1)) := by rw [hwo233]; exact (B211.out.al (.cells #[.bool false, .slice xa63 S'.length xc63, .slice ya63 DQ'.length yc63] 25))
  have B236 : Hid (Abx wo233 (w.heap.size + 1) (.bool false) (.slice (some ⟨b2, o2, none⟩) sz2.length sc2) (.slice da2 dz2.length dc2)) := by rw [hwo233]; exact (B212.out.al (.cells #[.bool false, .slice xa63 S'.length xc63, .slice ya63 DQ'.length yc63] 25))
  have B237 : Hid (Abx wo233 (w.heap.size + 1 + 1) (.bool false) (.slice (some ⟨b3, o3, none⟩) sz3.length sc3) (.slice da3 dz3.length dc3)) := by rw [hwo233]; exact (B213.out.al (.cells #[.bool false, .slice xa63 S'.length xc63, .slice ya63 DQ'.length yc63] 25))
  have B238 : Hid (Abx wo233 (v8.heap.size) (.bool false) (.slice xa0 sz2.length xc0) (.slice ya0 D0.length yc0)) := by rw [hwo233]; exact (B214.out.al (.cells #[.bool false, .slice xa63 S'.length xc63, .slice ya63 DQ'.length yc63] 25))
  have B239 : Hid (Abx wo233 (v9.heap.size) (.bool false) (.slice xa61 S'.length xc61) (.slice ya61 DX'.length yc61)) := by rw [hwo233]; exact (B215.out.al (.cells #[.bool false, .slice xa63 S'.length xc63, .slice ya63 DQ'.length yc63] 25))
  have B240 : Hid (Abx wo233 (v10.heap.size) (.bool false) (.slice xa62 S'.length xc62) (.slice ya62 DP'.length yc62)) := by rw [hwo233]; exact (B216.out.al (.cells #[.bool false, .slice xa63 S'.length xc63, .slice ya63 DQ'.length yc63] 25))
  have B241 : Hid (Abx wo233 (v11.heap.size) (.bool false) (.slice xa63 S'.length xc63) (.slice ya63 DQ'.length yc63)) := by rw [hwo233]; exact n226
  have L242 : Hid (MidC (v7.heap.size) (v8.heap.size) wo233 (xa0) (sz2) (xc0)) := by rw [hwo233]; exact (L217.out.al (by omega) (.cells #[.bool false, .slice xa63 S'.length xc63, .slice ya63 DQ'.length yc63] 25))
  have L243 : Hid (MidC (v7.heap.size) (v8.heap.size) wo233 (ya0) (D0) (yc0)) := by rw [hwo233]; exact (L218.out.al (by omega) (.cells #[.bool false, .slice xa63 S'.length xc63, .slice ya63 DQ'.length yc63] 25))
  have L244 : Hid (MidC (wo115.drew.drew.heap.size) (v9.heap.size) wo233 (xa61) (S') (xc61)) := by rw [hwo233]; exact (L219.out.al (by omega) (.cells #[.bool false, .slice xa63 S'.length xc63, .slice ya63 DQ'.length yc63] 25))
  have L245 : Hid (MidC (wo115.drew.drew.heap.size) (v9.heap.size) wo233 (ya61) (DX') (yc61)) := by rw [hwo233]; exact (L220.out.al (by omega) (.cells #[.bool false, .slice xa63 S'.length xc63, .slice ya63 DQ'.length yc63] 25))
  have L246 : Hid (MidC (wo163.heap.size) (v10.heap.size) wo233 (xa62) (S') (xc62)) := by rw [hwo233]; exact (L221.out.al (by omega) (.cells #[.bool false, .slice xa63 S'.length xc63, .slice ya63 DQ'.length yc63] 25))
  have L247 : Hid (MidC (wo163.heap.size) (v10.heap.size) wo233 (ya62) (DP') (yc62)) := by rw [hwo233]; exact (L222.out.al (by omega) (.cells #[.bool false, .slice xa63 S'.length xc63, .slice ya63 DQ'.length yc63] 25))
  have L248 : Hid (MidC (wo195.heap.size) (v11.heap.size) wo233 (xa63) (S') (xc63)) := by rw [hwo233]; exact (L224.out.al (by omega) (.cells #[.bool false, .slice xa63 S'.length xc63, .slice ya63 DQ'.length yc63] 25))
  have L249 : Hid (MidC (wo195.heap.size) (v11.heap.size) wo233 (ya63) (DQ') (yc63)) := by rw [hwo233]; exact (L225.out.al (by omega) (.cells #[.bool false, .slice xa63 S'.length xc63, .slice ya63 DQ'.length yc63] 25))
  have hb250 : Hid (Below w.heap.size w wo233) := by rw [hwo233]; exact (hb223.out.alloc (by omega) (.cells #[.bool false, .slice xa63 S'.length xc63, .slice ya63 DQ'.length yc63] 25))
  have zwo233 : w.heap.size ≤ wo233.heap.size := hb250.out.size
  clear hwo233 n226 l227 l228 l229 l230 l231 l232 hb223 B211 B212 B213 B214 B215 B216 L217 L218 L219 L220 L221 L222 L224 L225
  refine (c2w_ok H2 1 false xa62 xc62 S' S'.length rfl ya62 yc62 DP' DP'.length rfl false xa63 xc63 S' S'.length rfl ya63 yc63 DQ' DQ'.length rfl _ (by unfold In64; decide) (by omega) (by omega) (L246.out.is (by omega)).1 (L247.out.is (by omega)).1 HLT.out.1 (by omega) (by omega) (L248.out.is (by omega)).1 (L249.out.is (by omega)).1 HLT.out.2 S' DX' HL4.out).mono ?_
  rintro e v12 ⟨xa64, xc64, ya64, yc64, rfl, hX64, hY64, hB⟩
  have z251 : wo233.heap.size ≤ v12.heap.size := hB.size
  have B252 : Hid (Abx v12 (w.heap.size) (.bool false) (.slice (some ⟨b1, o1, none⟩) sz1.length sc1) (.slice da1 dz1.length dc1)) := B235.out.go hB
  have B253 : Hid (Abx v12 (w.heap.size + 1) (.bool false) (.slice (some ⟨b2, o2, none⟩) sz2.length sc2) (.slice da2 dz2.length dc2)) := B236.out.go hB
  have B254 : Hid (Abx v12 (w.heap.size + 1 + 1) (.bool false) (.slice (some ⟨b3, o3, none⟩) sz3.length sc3) (.slice da3 dz3.length dc3)) := B237.out.go hB
  have B255 : Hid (Abx v12 (v8.heap.size) (.bool false) (.slice xa0 sz2.length xc0) (.slice ya0 D0.length yc0)) := B238.out.go hB
  have B256 : Hid (Abx v12 (v9.heap.size) (.bool false) (.slice xa61 S'.length xc61) (.slice ya61 DX'.length yc61)) := B239.out.go hB
  have B257 : Hid (Abx v12 (v10.heap.size) (.bool false) (.slice xa62 S'.length xc62) (.slice ya62 DP'.length yc62)) := B240.out.go hB
  have B258 : Hid (Abx v12 (v11.heap.size) (.bool false) (.slice xa63 S'.length xc63) (.slice ya63 DQ'.length yc63)) := B241.out.go hB
  have L259 : Hid (MidC (v7.heap.size) (v8.heap.size) v12 (xa0) (sz2) (xc0)) := L242.out.go (by omega) hB
  have L260 : Hid (MidC (v7.heap.size) (v8.heap.size) v12 (ya0) (D0) (yc0)) := L243.out.go (by omega) hB
  have L261 : Hid (MidC (wo115.drew.drew.heap.size) (v9.heap.size) v12 (xa61) (S') (xc61)) := L244.out.go (by omega) hB
  have L262 : Hid (MidC (wo115.drew.drew.heap.size) (v9.heap.size) v12 (ya61) (DX') (yc61)) := L245.out.go (by omega) hB
  have L263 : Hid (MidC (wo163.heap.size) (v10.heap.size) v12 (xa62) (S') (xc62)) := L246.out.go (by omega) hB
  have L264 : Hid (MidC (wo163.heap.size) (v10.heap.size) v12 (ya62) (DP') (yc62)) := L247.out.go (by omega) hB
  have L265 : Hid (MidC (wo195.heap.size) (v11.heap.size) v12 (xa63) (S') (xc63)) := L248.out.go (by omega) hB
  have L266 : Hid (MidC (wo195.heap.size) (v11.heap.size) v12 (ya63) (DQ') (yc63)) := L249.out.go (by omega) hB
  have hb267 : Hid (Below w.heap.size w v12) := hb250.out.trans (hB.mono hb250.out.size)
  have L268 : Hid (MidC (wo233.heap.size) (v12.heap.size) v12 (xa64) (S') (xc64)) := hX64.midc
  have L269 : Hid (MidC (wo233.heap.size) (v12.heap.size) v12 (ya64) (DX') (yc64)) := hY64.midc
  clear hB hb250 B235 B236 B237 B238 B239 B240 B241 L242 L243 L244 L245 L246 L247 L248 L249 hX64 hY64
  clear L263 L264 L265 L266 B257 B258
  have n270 := Abx.new v12 (.bool false) (.slice xa64 S'.length xc64) (.slice ya64 DX'.length yc64)
  have l271 := ((B256.out.al (.cells #[.bool false, .slice xa64 S'.length xc64, .slice ya64 DX'.length yc64] 25))).c0
  have l272 := ((B256.out.al (.cells #[.bool false, .slice xa64 S'.length xc64, .slice ya64 DX'.length yc64] 25))).c1
  have l273 := ((B256.out.al (.cells #[.bool false, .slice xa64 S'.length xc64, .slice ya64 DX'.length yc64] 25))).c2
  have l274 := (n270).c0
  have l275 := (n270).c1
  have l276 := (n270).c2
  go_wp2_with fail
  obtain ⟨wo277, hwo277⟩ : ∃ wo277, wo277 = (v12.alloc (.cells #[.bool false, .slice xa64 S'.length xc64, .slice ya64 DX'.length yc64] 25)) := ⟨_, rfl⟩
  rw [← hwo277]
  have z278 : v12.heap.size + 1 ≤ wo277.heap.size := by rw [hwo277]; simp only [World.size_alloc]; omega
  have B279 : Hid (Abx wo277 (w.heap.size) (.bool false) (.slice (some ⟨b1, o1, none⟩) sz1.length sc1) (.slice da1 dz1.length dc1)) := by rw [hwo277]; exact (B252.out.al (.cells #[.bool false, .slice xa64 S'.length xc64, .slice ya64 DX'.length yc64] 25))
  have B280 : Hid (Abx wo277 (w.heap.size + 1) (.bool false) (.slice (some ⟨b2, o2, none⟩) sz2.length sc2) (.slice da2 dz2.length dc2)) := by rw [hwo277]; exact (B253.out.al (.cells #[.bool false, .slice xa64 S'.length xc64, .slice ya64 DX'.length yc64] 25))
  have B281 : Hid (Abx wo277 (w.heap.size + 1 + 1) (.bool false) (.slice (some ⟨b3, o3, none⟩) sz3.length sc3) (.slice da3 dz3.length dc3)) := by rw [hwo277]; exact (B254.out.al (.cells #[.bool false, .slice xa64 S'.length xc64, .slice ya64 DX'.length yc64] 25))
  have B282 : Hid (Abx wo277 (v8.heap.size) (.bool false) (.slice xa0 sz2.length xc0) (.slice ya0 D0.length yc0)) := by rw [hwo277]; exact (B255.out.al (.cells #[.bool false, .slice xa64 S'.length xc64, .slice ya64 DX'.length yc64] 25))
  have B283 : Hid (Abx wo277 (v9.heap.size) (.bool false) (.slice xa61 S'.length xc61) (.slice ya61 DX'.length yc61)) := by rw [hwo277]; exact (B256.out.al (.cells #[.bool false, .slice xa64 S'.length xc64, .slice ya64 DX'.length yc64] 25))
  have B284 : Hid (Abx wo277 (v12.heap.size) (.bool false) (.slice xa64 S'.length xc64) (.slice ya64 DX'.length yc64)) := by rw [hwo277]; exact n270
  have L285 : Hid (MidC (v7.heap.size) (v8.heap.size) wo277 (xa0) (sz2) (xc0)) := by rw [hwo277]; exact (L259.out.al (by omega) (.cells #[.bool false, .slice xa64 S'.length xc64, .slice ya64 DX'.length yc64] 25))
  have L286 : Hid (MidC (v7.heap.size) (v8.heap.size) wo277 (ya0) (D0) (yc0)) := by rw [hwo277]; exact (L260.out.al (by omega) (.cells #[.bool false, .slice xa64 S'.length xc64, .slice ya64 DX'.length yc64] 25))
  have L287 : Hid (MidC (wo115.drew.drew.heap.size) (v9.heap.size) wo277 (xa61) (S') (xc61)) := by rw [hwo277]; exact (L261.out.al (by omega) (.cells #[.bool false, .slice xa64 S'.length xc64, .slice ya64 DX'.length yc64] 25))
  have L288 : Hid (MidC (wo115.drew.drew.heap.size) (v9.heap.size) wo277 (ya61) (DX') (yc61)) := by rw [hwo277]; exact (L262.out.al (by omega) (.cells #[.bool false, .slice xa64 S'.length xc64, .slice ya64 DX'.length yc64] 25))
  have L289 : Hid (MidC (wo233.heap.size) (v12.heap.size) wo277 (xa64) (S') (xc64)) := by rw [hwo277]; exact (L268.out.al (by omega) (.cells #[.bool false, .slice xa64 S'.length xc64, .slice ya64 DX'.length yc64] 25))
  have L290 : Hid (MidC (wo233.heap.size) (v12.heap.size) wo277 (ya64) (DX') (yc64)) := by rw [hwo277]; exact (L269.out.al (by omega) (.cells #[.bool false, .slice xa64 S'.length xc64, .slice ya64 DX'.length yc64] 25))
  have hb291 : Hid (Below w.heap.size w wo277) := by rw [hwo277]; exact (hb267.out.alloc (by omega) (.cells #[.bool false, .slice xa64 S'.length xc64, .slice ya64 DX'.length yc64] 25))
  have zwo277 : w.heap.size ≤ wo277.heap.size := hb291.out.size
  clear hwo277 n270 l271 l272 l273 l274 l275 l276 hb267 B252 B253 B254 B255 B256 L259 L260 L261 L262 L268 L269
  refine (alike_eq false xa61 xc61 S' ya61 yc61 DX' xa64 xc64 S' ya64 yc64 DX' rfl rfl (by omega) (by omega) _ (L287.out.is (by omega)) (L288.out.is (by omega)).1 (L289.out.is (by omega)) (L290.out.is (by omega)).1).mono ?_
  rintro e v13 ⟨rfl, hB⟩
  have z292 : wo277.heap.size ≤ v13.heap.size := hB.size
  have B293 : Hid (Abx v13 (w.heap.size) (.bool false) (.slice (some ⟨b1, o1, none⟩) sz1.length sc1) (.slice da1 dz1.length dc1)) := B279.out.go hB
  have B294 : Hid (Abx v13 (w.heap.size + 1) (.bool false) (.slice (some ⟨b2, o2, none⟩) sz2.length sc2) (.slice da2 dz2.length dc2)) := B280.out.go hB
  have B295 : Hid (Abx v13 (w.heap.size + 1 + 1) (.bool false) (.slice (some ⟨b3, o3, none⟩) sz3.length sc3) (.slice da3 dz3.length dc3)) := B281.out.go hB
  have B296 : Hid (Abx v13 (v8.heap.size) (.bool false) (.slice xa0 sz2.length xc0) (.slice ya0 D0.length yc0)) := B282.out.go hB
  have B297 : Hid (Abx v13 (v9.heap.size) (.bool false) (.slice xa61 S'.length xc61) (.slice ya61 DX'.length yc61)) := B283.out.go hB
  have B298 : Hid (Abx v13 (v12.heap.size) (.bool false) (.slice xa64 S'.length xc64) (.slice ya64 DX'.length yc64)) := B284.out.go hB
  have L299 : Hid (MidC (v7.heap.size) (v8.heap.size) v13 (xa0) (sz2) (xc0)) := L285.out.go (by omega) hB
  have L300 : Hid (MidC (v7.heap.size) (v8.heap.size) v13 (ya0) (D0) (yc0)) := L286.out.go (by omega) hB
  have L301 : Hid (MidC (wo115.drew.drew.heap.size) (v9.heap.size) v13 (xa61) (S') (xc61)) := L287.out.go (by omega) hB
  have L302 : Hid (MidC (wo115.drew.drew.heap.size) (v9.heap.size) v13 (ya61) (DX') (yc61)) := L288.out.go (by omega) hB
  have L303 : Hid (MidC (wo233.heap.size) (v12.heap.size) v13 (xa64) (S') (xc64)) := L289.out.go (by omega) hB
  have L304 : Hid (MidC (wo233.heap.size) (v12.heap.size) v13 (ya64) (DX') (yc64)) := L290.out.go (by omega) hB
  have hb305 : Hid (Below w.heap.size w v13) := hb291.out.trans (hB.mono hb291.out.size)
  clear hB hb291 B279 B280 B281 B282 B283 B284 L285 L286 L287 L288 L289 L290
  clear L301 L302 L303 L304 B297 B298
  go_wp2_with fail
  go_ret
  exact ⟨rfl, hb305.out⟩
set_option maxRecDepth 100000 in
set_option maxHeartbeats 4000000 in
theorem sums_rl (HNi : CNi) (H2 : C2d) (c1 : Bool) (sa1 : Option Addr) (sc1 : Nat) (sz1 : List Int) (da1 : Option Addr) (dc1 : Nat) (dz1 : List Int) (c2 : Bool) (sa2 : Option Addr) (sc2 : Nat) (sz2 : List Int) (da2 : Option Addr) (dc2 : Nat) (dz2 : List Int) (c3 : Bool) (sa3 : Option Addr) (sc3 : Nat) (sz3 : List Int) (da3 : Option Addr) (dc3 : Nat) (dz3 : List Int) (w : World) (w8 : IsArrD w sa1 sz1 sc1 da1 dz1 dc1) (w9 : IsArrD w sa2 sz2 sc2 da2 dz2 dc2) (w10 : IsArrD w sa3 sz3 sc3 da3 dz3 dc3) (G1 : Hid (GrdP 16 c1 sz1 dz1)) (G2 : Hid (GrdP 16 c2 sz2 dz2)) (G3 : Hid (GrdP 16 c3 sz3 dz3)) (ES : Hid (sz2 = sz3)) (E1 : Hid (nth sz1 1 = nth sz2 0)) (E2 : Hid (nth sz2 1 = nth sz1 0)) :
    Calls Try.prog 5 #[.agg #[.bool c1, .slice sa1 sz1.length sc1, .slice da1 dz1.length dc1], .agg #[.bool c2, .slice sa2 sz2.length sc2, .slice da2 dz2.length dc2], .agg #[.bool c3, .slice sa3 sz3.length sc3, .slice da3 dz3.length dc3]] w fun e w' => e = .returned (.bool true) ∧ Below w.heap.size w w' := by
  obtain ⟨b1, o1, rfl, hq1, hc1⟩ := w8.2.2.1.1.at (q := 0) (by rw [G1.out.2.1]; decide)
  have hcf1 := G1.out.1
  subst hcf1
  obtain ⟨m1, hm1⟩ : ∃ m, m = nth sz1 0 := ⟨_, rfl⟩
  obtain ⟨n1, hn1⟩ : ∃ n, n = nth sz1 1 := ⟨_, rfl⟩
  have HC1 : Hid (b1 < w.heap.size ∧ w.cell? ⟨b1, o1, none⟩ = some (.int .i64 m1) ∧ w.cell? ⟨b1, o1 + 1, none⟩ = some (.int .i64 n1)) := ⟨hq1, by have := hc1 0 (by rw [G1.out.2.1]; decide); rw [Nat.add_zero, ← hm1] at this; exact this, by rw [hn1]; exact hc1 1 (by rw [G1.out.2.1]; decide)⟩
  have HM1 : Hid (m1 = nth sz1 0 ∧ n1 = nth sz1 1) := ⟨hm1, hn1⟩
  have hz1 : sz1.length = 2 := G1.out.2.1
  have HZ1 : Hid (sz1.length = 2) := hz1
  have lz1 : 1 < sz1.length := by omega
  have ly1 : 0 < sz1.length := by omega
  have lw1 : (1 : Int) < (sz1.length : Int) := by omega
  have lv1 : (0 : Int) < (sz1.length : Int) := by omega
  clear hq1 hc1 hm1 hn1 hz1
  obtain ⟨b2, o2, rfl, hq2, hc2⟩ := w9.2.2.1.1.at (q := 0) (by rw [G2.out.2.1]; decide)
  have hcf2 := G2.out.1
  subst hcf2
  obtain ⟨m2, hm2⟩ : ∃ m, m = nth sz2 0 := ⟨_, rfl⟩
  obtain ⟨n2, hn2⟩ : ∃ n, n = nth sz2 1 := ⟨_, rfl⟩
  have HC2 : Hid (b2 < w.heap.size ∧ w.cell? ⟨b2, o2, none⟩ = some (.int .i64 m2) ∧ w.cell? ⟨b2, o2 + 1, none⟩ = some (.int .i64 n2)) := ⟨hq2, by have := hc2 0 (by rw [G2.out.2.1]; decide); rw [Nat.add_zero, ← hm2] at this; exact this, by rw [hn2]; exact hc2 1 (by rw [G2.out.2.1]; decide)⟩
  have HM2 : Hid (m2 = nth sz2 0 ∧ n2 = nth sz2 1) := ⟨hm2, hn2⟩
  have hz2 : sz2.length = 2 := G2.out.2.1
  have HZ2 : Hid (sz2.length = 2) := hz2
  have lz2 : 1 < sz2.length := by omega
  have ly2 : 0 < sz2.length := by omega
  have lw2 : (1 : Int) < (sz2.length : Int) := by omega
  have lv2 : (0 : Int) < (sz2.length : Int) := by omega
  clear hq2 hc2 hm2 hn2 hz2
  obtain ⟨b3, o3, rfl, hq3, hc3⟩ := w10.2.2.1.1.at (q := 0) (by rw [G3.out.2.1]; decide)
  have hcf3 := G3.out.1
  subst hcf3
  obtain ⟨m3, hm3⟩ : ∃ m, m = nth sz3 0 := ⟨_, rfl⟩
  obtain ⟨n3, hn3⟩ : ∃ n, n = nth sz3 1 := ⟨_, rfl⟩
  have HC3 : Hid (b3 < w.heap.size ∧ w.cell? ⟨b3, o3, none⟩ = some (.int .i64 m3) ∧ w.cell? ⟨b3, o3 + 1, none⟩ = some (.int .i64 n3)) := ⟨hq3, by have := hc3 0 (by rw [G3.out.2.1]; decide); rw [Nat.add_zero, ← hm3] at this; exact this, by rw [hn3]; exact hc3 1 (by rw [G3.out.2.1]; decide)⟩
  have HM3 : Hid (m3 = nth sz3 0 ∧ n3 = nth sz3 1) := ⟨hm3, hn3⟩
  have hz3 : sz3.length = 2 := G3.out.2.1
  have HZ3 : Hid (sz3.length = 2) := hz3
  have lz3 : 1 < sz3.length := by omega
  have ly3 : 0 < sz3.length := by omega
  have lw3 : (1 : Int) < (sz3.length : Int) := by omega
  have lv3 : (0 : Int) < (sz3.length : Int) := by omega
  clear hq3 hc3 hm3 hn3 hz3
  obtain ⟨D0, Q1, Q2, Q3⟩ := sum13 G2.out G3.out ES.out w9.2.2.2.2.2 w10.2.2.2.2.2
  have HQ1 : Hid (_) := Q1
  have HQ2 : Hid (_) := Q2
  have t1 : (n1 == m2) = true := by rw [HM1.out.2, HM2.out.1]; rw [E1.out]; simp
  have t2 : (n2 != m1) = false := by rw [HM2.out.2, HM1.out.1]; rw [E2.out]; simp
  obtain ⟨S, DX, DP, DQ, R1, R2, R3, R4, TT, L1⟩ := sumr13 G1.out G2.out G3.out ES.out E1.out w8.2.2.2.2.2 w9.2.2.2.2.2 w10.2.2.2.2.2 Q1.2.2
  have HR1 : Hid (_) := R1
  have HR2 : Hid (_) := R2
  have HR3 : Hid (_) := R3
  have HR4 : Hid (_) := R4
  have HTT : Hid (_) := TT
  clear R1 R2 R3 R4 TT
  obtain ⟨S', DX', DP', DQ', R1, R2, R3, R4, TT, L2⟩ := suml13 G1.out G2.out G3.out ES.out E2.out w8.2.2.2.2.2 w9.2.2.2.2.2 w10.2.2.2.2.2 Q1.2.2
  have HL1 : Hid (_) := R1
  have HL2 : Hid (_) := R2
  have HL3 : Hid (_) := R3
  have HL4 : Hid (_) := R4
  have HLT : Hid (_) := TT
  clear R1 R2 R3 R4 TT
  clear Q1 Q2
  obtain ⟨x11, x12, x3, x4, s64, T⟩ := w8
  have HI1 : Hid (IsC w.heap.size w (some ⟨b1, o1, none⟩) sz1 sc1 ∧ IsC w.heap.size w da1 dz1 dc1 ∧ (∀ j, In64 (nth sz1 j)) ∧ ∀ j, In64 (nth dz1 j)) := ⟨x3, x4, s64, T⟩
  clear x3 x4 T s64
  obtain ⟨x21, x22, x3, x4, s64, T⟩ := w9
  have HI2 : Hid (IsC w.heap.size w (some ⟨b2, o2, none⟩) sz2 sc2 ∧ IsC w.heap.size w da2 dz2 dc2 ∧ (∀ j, In64 (nth sz2 j)) ∧ ∀ j, In64 (nth dz2 j)) := ⟨x3, x4, s64, T⟩
  clear x3 x4 T s64
  obtain ⟨x31, x32, x3, x4, s64, T⟩ := w10
  have HI3 : Hid (IsC w.heap.size w (some ⟨b3, o3, none⟩) sz3 sc3 ∧ IsC w.heap.size w da3 dz3 dc3 ∧ (∀ j, In64 (nth sz3 j)) ∧ ∀ j, In64 (nth dz3 j)) := ⟨x3, x4, s64, T⟩
  clear x3 x4 T s64
  have n1 := Abx.new w (.bool false) (.slice (some ⟨b1, o1, none⟩) sz1.length sc1) (.slice da1 dz1.length dc1)
  have n2 := Abx.new (w.alloc (.cells #[.bool false, .slice (some ⟨b1, o1, none⟩) sz1.length sc1, .slice da1 dz1.length dc1] 25)) (.bool false) (.slice (some ⟨b2, o2, none⟩) sz2.length sc2) (.slice da2 dz2.length dc2)
  simp only [World.size_alloc] at n2
  have n3 := Abx.new ((w.alloc (.cells #[.bool false, .slice (some ⟨b1, o1, none⟩) sz1.length sc1, .slice da1 dz1.length dc1] 25)).alloc (.cells #[.bool false, .slice (some ⟨b2, o2, none⟩) sz2.length sc2, .slice da2 dz2.length dc2] 25)) (.bool false) (.slice (some ⟨b3, o3, none⟩) sz3.length sc3) (.slice da3 dz3.length dc3)
  simp only [World.size_alloc] at n3
  have n4 := lit_mid (((w.alloc (.cells #[.bool false, .slice (some ⟨b1, o1, none⟩) sz1.length sc1, .slice da1 dz1.length dc1] 25)).alloc (.cells #[.bool false, .slice (some ⟨b2, o2, none⟩) sz2.length sc2, .slice da2 dz2.length dc2] 25)).alloc (.cells #[.bool false, .slice (some ⟨b3, o3, none⟩) sz3.length sc3, .slice da3 dz3.length dc3] 25)) 3 [1, 1] 2 rfl
  simp only [World.size_alloc, List.map_cons, List.map_nil] at n4
  go_enter Try.func5, Try.ntmps5
  go_wp2_with fail
  obtain ⟨wo5, hwo5⟩ : ∃ wo5, wo5 = ((((w.alloc (.cells #[.bool false, .slice (some ⟨b1, o1, none⟩) sz1.length sc1, .slice da1 dz1.length dc1] 25)).alloc (.cells #[.bool false, .slice (some ⟨b2, o2, none⟩) sz2.length sc2, .slice da2 dz2.length dc2] 25)).alloc (.cells #[.bool false, .slice (some ⟨b3, o3, none⟩) sz3.length sc3, .slice da3 dz3.length dc3] 25)).alloc (.cells #[.int .i64 1, .int .i64 1] 3)) := ⟨_, rfl⟩
  rw [← hwo5]
  have z6 : w.heap.size + 1 + 1 + 1 + 1 ≤ wo5.heap.size := by rw [hwo5]; simp only [World.size_alloc]; omega
  have B7 : Hid (Abx wo5 (w.heap.size) (.bool false) (.slice (some ⟨b1, o1, none⟩) sz1.length sc1) (.slice da1 dz1.length dc1)) := by rw [hwo5]; exact (((n1.al (.cells #[.bool false, .slice (some ⟨b2, o2, none⟩) sz2.length sc2, .slice da2 dz2.length dc2] 25)).al (.cells #[.bool false, .slice (some ⟨b3, o3, none⟩) sz3.length sc3, .slice da3 dz3.length dc3] 25)).al (.cells #[.int .i64 1, .int .i64 1] 3))
  have B8 : Hid (Abx wo5 (w.heap.size + 1) (.bool false) (.slice (some ⟨b2, o2, none⟩) sz2.length sc2) (.slice da2 dz2.length dc2)) := by rw [hwo5]; exact ((n2.al (.cells #[.bool false, .slice (some ⟨b3, o3, none⟩) sz3.length sc3, .slice da3 dz3.length dc3] 25)).al (.cells #[.int .i64 1, .int .i64 1] 3))
  have B9 : Hid (Abx wo5 (w.heap.size + 1 + 1) (.bool false) (.slice (some ⟨b3, o3, none⟩) sz3.length sc3) (.slice da3 dz3.length dc3)) := by rw [hwo5]; exact (n3.al (.cells #[.int .i64 1, .int .i64 1] 3))
  have L10 : Hid (MidC (w.heap.size + 1 + 1 + 1) (w.heap.size + 1 + 1 + 1 + 1) wo5 (some ⟨w.heap.size + 1 + 1 + 1, 0, none⟩) ([1, 1]) (2)) := by rw [hwo5]; exact n4
  have hb11 : Hid (Below w.heap.size w wo5) := by rw [hwo5]; exact (((((Below.refl w.heap.size w).alloc (by omega) (.cells #[.bool false, .slice (some ⟨b1, o1, none⟩) sz1.length sc1, .slice da1 dz1.length dc1] 25)).alloc (by simp only [World.size_alloc]; omega) (.cells #[.bool false, .slice (some ⟨b2, o2, none⟩) sz2.length sc2, .slice da2 dz2.length dc2] 25)).alloc (by simp only [World.size_alloc]; omega) (.cells #[.bool false, .slice (some ⟨b3, o3, none⟩) sz3.length sc3, .slice da3 dz3.length dc3] 25)).alloc (by simp only [World.size_alloc]; omega) (.cells #[.int .i64 1, .int .i64 1] 3))
  have zwo5 : w.heap.size ≤ wo5.heap.size := hb11.out.size
  clear hwo5 n1 n2 n3 n4
  refine (vec_c (some ⟨w.heap.size + 1 + 1 + 1, 0, none⟩) 2 [1, 1] (by simp) _ (L10.out.is (by omega)).1).mono ?_
  rintro e v1 ⟨vap, vcp, gap, gcp, rfl, hVp, hGp, hB⟩
  have z12 : wo5.heap.size ≤ v1.heap.size := hB.size
  have B13 : Hid (Abx v1 (w.heap.size) (.bool false) (.slice (some ⟨b1, o1, none⟩) sz1.length sc1) (.slice da1 dz1.length dc1)) := B7.out.go hB
  have B14 : Hid (Abx v1 (w.heap.size + 1) (.bool false) (.slice (some ⟨b2, o2, none⟩) sz2.length sc2) (.slice da2 dz2.length dc2)) := B8.out.go hB
  have B15 : Hid (Abx v1 (w.heap.size + 1 + 1) (.bool false) (.slice (some ⟨b3, o3, none⟩) sz3.length sc3) (.slice da3 dz3.length dc3)) := B9.out.go hB
  have L16 : Hid (MidC (w.heap.size + 1 + 1 + 1) (w.heap.size + 1 + 1 + 1 + 1) v1 (some ⟨w.heap.size + 1 + 1 + 1, 0, none⟩) ([1, 1]) (2)) := L10.out.go (by omega) hB
  have hb17 : Hid (Below w.heap.size w v1) := hb11.out.trans (hB.mono hb11.out.size)
  have L18 : Hid (MidC (wo5.heap.size) (v1.heap.size) v1 (vap) ([(2 : Int)]) (vcp)) := hVp.midc
  have L19 : Hid (MidC (wo5.heap.size) (v1.heap.size) v1 (gap) ([1, 1]) (gcp)) := hGp.midc
  clear hB hb11 B7 B8 B9 L10 hVp hGp
  clear L16
  have n20 := lit_mid v1 3 [4, 3] 2 rfl
  simp only [List.map_cons, List.map_nil] at n20
  go_wp2_with fail
  obtain ⟨wo21, hwo21⟩ : ∃ wo21, wo21 = (v1.alloc (.cells #[.int .i64 4, .int .i64 3] 3)) := ⟨_, rfl⟩
  rw [← hwo21]
  have z22 : v1.heap.size + 1 ≤ wo21.heap.size := by rw [hwo21]; simp only [World.size_alloc]; omega
  have B23 : Hid (Abx wo21 (w.heap.size) (.bool false) (.slice (some ⟨b1, o1, none⟩) sz1.length sc1) (.slice da1 dz1.length dc1)) := by rw [hwo21]; exact (B13.out.al (.cells #[.int .i64 4, .int .i64 3] 3))
  have B24 : Hid (Abx wo21 (w.heap.size + 1) (.bool false) (.slice (some ⟨b2, o2, none⟩) sz2.length sc2) (.slice da2 dz2.length dc2)) := by rw [hwo21]; exact (B14.out.al (.cells #[.int .i64 4, .int .i64 3] 3))
  have B25 : Hid (Abx wo21 (w.heap.size + 1 + 1) (.bool false) (.slice (some ⟨b3, o3, none⟩) sz3.length sc3) (.slice da3 dz3.length dc3)) := by rw [hwo21]; exact (B15.out.al (.cells #[.int .i64 4, .int .i64 3] 3))
  have L26 : Hid (MidC (wo5.heap.size) (v1.heap.size) wo21 (vap) ([(2 : Int)]) (vcp)) := by rw [hwo21]; exact (L18.out.al (by omega) (.cells #[.int .i64 4, .int .i64 3] 3))
  have L27 : Hid (MidC (wo5.heap.size) (v1.heap.size) wo21 (gap) ([1, 1]) (gcp)) := by rw [hwo21]; exact (L19.out.al (by omega) (.cells #[.int .i64 4, .int .i64 3] 3))
  have L28 : Hid (MidC (v1.heap.size) (v1.heap.size + 1) wo21 (some ⟨v1.heap.size, 0, none⟩) ([4, 3]) (2)) := by rw [hwo21]; exact n20
  have hb29 : Hid (Below w.heap.size w wo21) := by rw [hwo21]; exact (hb17.out.alloc (by omega) (.cells #[.int .i64 4, .int .i64 3] 3))
  have zwo21 : w.heap.size ≤ wo21.heap.size := hb29.out.size
  clear hwo21 n20 hb17 B13 B14 B15 L18 L19
  refine (vec_c (some ⟨v1.heap.size, 0, none⟩) 2 [4, 3] (by simp) _ (L28.out.is (by omega)).1).mono ?_
  rintro e v2 ⟨vaq, vcq, gaq, gcq, rfl, hVq, hGq, hB⟩
  have z30 : wo21.heap.size ≤ v2.heap.size := hB.size
  have B31 : Hid (Abx v2 (w.heap.size) (.bool false) (.slice (some ⟨b1, o1, none⟩) sz1.length sc1) (.slice da1 dz1.length dc1)) := B23.out.go hB
  have B32 : Hid (Abx v2 (w.heap.size + 1) (.bool false) (.slice (some ⟨b2, o2, none⟩) sz2.length sc2) (.slice da2 dz2.length dc2)) := B24.out.go hB
  have B33 : Hid (Abx v2 (w.heap.size + 1 + 1) (.bool false) (.slice (some ⟨b3, o3, none⟩) sz3.length sc3) (.slice da3 dz3.length dc3)) := B25.out.go hB
  have L34 : Hid (MidC (wo5.heap.size) (v1.heap.size) v2 (vap) ([(2 : Int)]) (vcp)) := L26.out.go (by omega) hB
  have L35 : Hid (MidC (wo5.heap.size) (v1.heap.size) v2 (gap) ([1, 1]) (gcp)) := L27.out.go (by omega) hB
  have L36 : Hid (MidC (v1.heap.size) (v1.heap.size + 1) v2 (some ⟨v1.heap.size, 0, none⟩) ([4, 3]) (2)) := L28.out.go (by omega) hB
  have hb37 : Hid (Below w.heap.size w v2) := hb29.out.trans (hB.mono hb29.out.size)
  have L38 : Hid (MidC (wo21.heap.size) (v2.heap.size) v2 (vaq) ([(2 : Int)]) (vcq)) := hVq.midc
  have L39 : Hid (MidC (wo21.heap.size) (v2.heap.size) v2 (gaq) ([4, 3]) (gcq)) := hGq.midc
  clear hB hb29 B23 B24 B25 L26 L27 L28 hVq hGq
  clear L36
  go_wp2_with fail
  refine (niw_ok 1 3 false vap vcp [(2 : Int)] 1 rfl gap gcp [1, 1] 2 rfl false vaq vcq [(2 : Int)] 1 rfl gaq gcq [4, 3] 2 rfl _ (by unfold In64; decide) (by unfold In64; decide) (by decide) (by decide) (L34.out.is (by omega)) (L35.out.is (by omega)).1 (lit12 (by decide)) (by decide) (by decide) (L38.out.is (by omega)) (L39.out.is (by omega)).1 (lit12 (by decide)) [] [7] HNi (by show inE 1 3 false [(2 : Int)] [1, 1] false [(2 : Int)] [4, 3] = 0 ∧ inS [(2 : Int)] [(2 : Int)] = [] ∧ inD 1 3 false [(2 : Int)] [1, 1] false [(2 : Int)] [4, 3] = [7]; decide +kernel)).mono ?_
  rintro e v3 ⟨f1, g1, f2, g2, rfl, hX0, hY0, hB⟩
  have z40 : v2.heap.size ≤ v3.heap.size := hB.size
  have B41 : Hid (Abx v3 (w.heap.size) (.bool false) (.slice (some ⟨b1, o1, none⟩) sz1.length sc1) (.slice da1 dz1.length dc1)) := B31.out.go hB
  have B42 : Hid (Abx v3 (w.heap.size + 1) (.bool false) (.slice (some ⟨b2, o2, none⟩) sz2.length sc2) (.slice da2 dz2.length dc2)) := B32.out.go hB
  have B43 : Hid (Abx v3 (w.heap.size + 1 + 1) (.bool false) (.slice (some ⟨b3, o3, none⟩) sz3.length sc3) (.slice da3 dz3.length dc3)) := B33.out.go hB
  have L44 : Hid (MidC (wo5.heap.size) (v1.heap.size) v3 (vap) ([(2 : Int)]) (vcp)) := L34.out.go (by omega) hB
  have L45 : Hid (MidC (wo5.heap.size) (v1.heap.size) v3 (gap) ([1, 1]) (gcp)) := L35.out.go (by omega) hB
  have L46 : Hid (MidC (wo21.heap.size) (v2.heap.size) v3 (vaq) ([(2 : Int)]) (vcq)) := L38.out.go (by omega) hB
  have L47 : Hid (MidC (wo21.heap.size) (v2.heap.size) v3 (gaq) ([4, 3]) (gcq)) := L39.out.go (by omega) hB
  have hb48 : Hid (Below w.heap.size w v3) := hb37.out.trans (hB.mono hb37.out.size)
  have L49 : Hid (MidC (v2.heap.size) (v3.heap.size) v3 (f1) ([]) (g1)) := hX0.midc
  have L50 : Hid (MidC (v2.heap.size) (v3.heap.size) v3 (f2) ([7]) (g2)) := hY0.midc
  clear hB hb37 B31 B32 B33 L34 L35 L38 L39 hX0 hY0
  clear L44 L45 L46 L47
  obtain ⟨b51, ob51, rfl, _, _, _, _⟩ := L50.out.at (i := 0) (by decide)
  have n52 := Abx.new v3 (.bool false) (.slice f1 0 g1) (.slice (some ⟨b51, ob51, none⟩) 1 g2)
  have l53 := (n52).c0
  have l54 := (n52).c1
  have l55 := (n52).c2
  obtain ⟨_, _, l56e, _, _, l56, _⟩ := ((L50.out.al (by omega) (.cells #[.bool false, .slice f1 0 g1, .slice (some ⟨b51, ob51, none⟩) 1 g2] 25))).at (i := 0) (by decide)
  cases l56e
  try simp only [Nat.add_zero] at l56
  have l57 := ((B42.out.al (.cells #[.bool false, .slice f1 0 g1, .slice (some ⟨b51, ob51, none⟩) 1 g2] 25))).c0
  have l58 := ((B42.out.al (.cells #[.bool false, .slice f1 0 g1, .slice (some ⟨b51, ob51, none⟩) 1 g2] 25))).c1
  have l59 := ((B42.out.al (.cells #[.bool false, .slice f1 0 g1, .slice (some ⟨b51, ob51, none⟩) 1 g2] 25))).c2
  have l60 := ((B43.out.al (.cells #[.bool false, .slice f1 0 g1, .slice (some ⟨b51, ob51, none⟩) 1 g2] 25))).c0
  have l61 := ((B43.out.al (.cells #[.bool false, .slice f1 0 g1, .slice (some ⟨b51, ob51, none⟩) 1 g2] 25))).c1
  have l62 := ((B43.out.al (.cells #[.bool false, .slice f1 0 g1, .slice (some ⟨b51, ob51, none⟩) 1 g2] 25))).c2
  go_wp2_with fail
  obtain ⟨wo63, hwo63⟩ : ∃ wo63, wo63 = (v3.alloc (.cells #[.bool false, .slice f1 0 g1, .slice (some ⟨b51, ob51, none⟩) 1 g2] 25)) := ⟨_, rfl⟩
  rw [← hwo63]
  have z64 : v3.heap.size + 1 ≤ wo63.heap.size := by rw [hwo63]; simp only [World.size_alloc]; omega
  have B65 : Hid (Abx wo63 (w.heap.size) (.bool false) (.slice (some ⟨b1, o1, none⟩) sz1.length sc1) (.slice da1 dz1.length dc1)) := by rw [hwo63]; exact (B41.out.al (.cells #[.bool false, .slice f1 0 g1, .slice (some ⟨b51, ob51, none⟩) 1 g2] 25))
  have B66 : Hid (Abx wo63 (w.heap.size + 1) (.bool false) (.slice (some ⟨b2, o2, none⟩) sz2.length sc2) (.slice da2 dz2.length dc2)) := by rw [hwo63]; exact (B42.out.al (.cells #[.bool false, .slice f1 0 g1, .slice (some ⟨b51, ob51, none⟩) 1 g2] 25))
  have B67 : Hid (Abx wo63 (w.heap.size + 1 + 1) (.bool false) (.slice (some ⟨b3, o3, none⟩) sz3.length sc3) (.slice da3 dz3.length dc3)) := by rw [hwo63]; exact (B43.out.al (.cells #[.bool false, .slice f1 0 g1, .slice (some ⟨b51, ob51, none⟩) 1 g2] 25))
  have B68 : Hid (Abx wo63 (v3.heap.size) (.bool false) (.slice f1 0 g1) (.slice (some ⟨b51, ob51, none⟩) 1 g2)) := by rw [hwo63]; exact n52
  have L69 : Hid (MidC (v2.heap.size) (v3.heap.size) wo63 (f1) ([]) (g1)) := by rw [hwo63]; exact (L49.out.al (by omega) (.cells #[.bool false, .slice f1 0 g1, .slice (some ⟨b51, ob51, none⟩) 1 g2] 25))
  have L70 : Hid (MidC (v2.heap.size) (v3.heap.size) wo63 (some ⟨b51, ob51, none⟩) ([7]) (g2)) := by rw [hwo63]; exact (L50.out.al (by omega) (.cells #[.bool false, .slice f1 0 g1, .slice (some ⟨b51, ob51, none⟩) 1 g2] 25))
  have hb71 : Hid (Below w.heap.size w wo63) := by rw [hwo63]; exact (hb48.out.alloc (by omega) (.cells #[.bool false, .slice f1 0 g1, .slice (some ⟨b51, ob51, none⟩) 1 g2] 25))
  have zwo63 : w.heap.size ≤ wo63.heap.size := hb71.out.size
  clear hwo63 n52 l53 l54 l55 l56 l57 l58 l59 l60 l61 l62 hb48 B41 B42 B43 L49 L50
  clear L69 L70 B68
  refine (ints_any (some ⟨b2, o2, none⟩) sc2 sz2 (some ⟨b3, o3, none⟩) sc3 sz3 x21 _ _ ((HI2.out.1.1.below hb71.out).mono hb71.out.size) ((HI3.out.1.1.below hb71.out).mono hb71.out.size)).mono ?_
  rintro e v4 ⟨rfl, hB⟩
  have z72 : wo63.heap.size ≤ v4.heap.size := hB.size
  have B73 : Hid (Abx v4 (w.heap.size) (.bool false) (.slice (some ⟨b1, o1, none⟩) sz1.length sc1) (.slice da1 dz1.length dc1)) := B65.out.go hB
  have B74 : Hid (Abx v4 (w.heap.size + 1) (.bool false) (.slice (some ⟨b2, o2, none⟩) sz2.length sc2) (.slice da2 dz2.length dc2)) := B66.out.go hB
  have B75 : Hid (Abx v4 (w.heap.size + 1 + 1) (.bool false) (.slice (some ⟨b3, o3, none⟩) sz3.length sc3) (.slice da3 dz3.length dc3)) := B67.out.go hB
  have hb76 : Hid (Below w.heap.size w v4) := hb71.out.trans (hB.mono hb71.out.size)
  clear hB hb71 B65 B66 B67
  rw [eqB_true ES.out]
  have l77 := (B73.out).c0
  have l78 := (B73.out).c1
  have l79 := (B73.out).c2
  go_wp2_with fail
  clear l77 l78 l79
  refine (grid_yes 16 (by decide) false (some ⟨b1, o1, none⟩) sc1 sz1 da1 dc1 dz1 _ ((HI1.out.1.1.below hb76.out).mono hb76.out.size) G1.out).mono ?_
  rintro e v5 ⟨rfl, hB⟩
  have z80 : v4.heap.size ≤ v5.heap.size := hB.size
  have B81 : Hid (Abx v5 (w.heap.size) (.bool false) (.slice (some ⟨b1, o1, none⟩) sz1.length sc1) (.slice da1 dz1.length dc1)) := B73.out.go hB
  have B82 : Hid (Abx v5 (w.heap.size + 1) (.bool false) (.slice (some ⟨b2, o2, none⟩) sz2.length sc2) (.slice da2 dz2.length dc2)) := B74.out.go hB
  have B83 : Hid (Abx v5 (w.heap.size + 1 + 1) (.bool false) (.slice (some ⟨b3, o3, none⟩) sz3.length sc3) (.slice da3 dz3.length dc3)) := B75.out.go hB
  have hb84 : Hid (Below w.heap.size w v5) := hb76.out.trans (hB.mono hb76.out.size)
  clear hB hb76 B73 B74 B75
  have l85 := (B82.out).c0
  have l86 := (B82.out).c1
  have l87 := (B82.out).c2
  go_wp2_with fail
  clear l85 l86 l87
  refine (grid_yes 16 (by decide) false (some ⟨b2, o2, none⟩) sc2 sz2 da2 dc2 dz2 _ ((HI2.out.1.1.below hb84.out).mono hb84.out.size) G2.out).mono ?_
  rintro e v6 ⟨rfl, hB⟩
  have z88 : v5.heap.size ≤ v6.heap.size := hB.size
  have B89 : Hid (Abx v6 (w.heap.size) (.bool false) (.slice (some ⟨b1, o1, none⟩) sz1.length sc1) (.slice da1 dz1.length dc1)) := B81.out.go hB
  have B90 : Hid (Abx v6 (w.heap.size + 1) (.bool false) (.slice (some ⟨b2, o2, none⟩) sz2.length sc2) (.slice da2 dz2.length dc2)) := B82.out.go hB
  have B91 : Hid (Abx v6 (w.heap.size + 1 + 1) (.bool false) (.slice (some ⟨b3, o3, none⟩) sz3.length sc3) (.slice da3 dz3.length dc3)) := B83.out.go hB
  have hb92 : Hid (Below w.heap.size w v6) := hb84.out.trans (hB.mono hb84.out.size)
  clear hB hb84 B81 B82 B83
  have l93 := (B91.out).c0
  have l94 := (B91.out).c1
  have l95 := (B91.out).c2
  go_wp2_with fail
  clear l93 l94 l95
  refine (grid_yes 16 (by decide) false (some ⟨b3, o3, none⟩) sc3 sz3 da3 dc3 dz3 _ ((HI3.out.1.1.below hb92.out).mono hb92.out.size) G3.out).mono ?_
  rintro e v7 ⟨rfl, hB⟩
  have z96 : v6.heap.size ≤ v7.heap.size := hB.size
  have B97 : Hid (Abx v7 (w.heap.size) (.bool false) (.slice (some ⟨b1, o1, none⟩) sz1.length sc1) (.slice da1 dz1.length dc1)) := B89.out.go hB
  have B98 : Hid (Abx v7 (w.heap.size + 1) (.bool false) (.slice (some ⟨b2, o2, none⟩) sz2.length sc2) (.slice da2 dz2.length dc2)) := B90.out.go hB
  have B99 : Hid (Abx v7 (w.heap.size + 1 + 1) (.bool false) (.slice (some ⟨b3, o3, none⟩) sz3.length sc3) (.slice da3 dz3.length dc3)) := B91.out.go hB
  have hb100 : Hid (Below w.heap.size w v7) := hb92.out.trans (hB.mono hb92.out.size)
  clear hB hb92 B89 B90 B91
  have l101 := (B98.out).c0
  have l102 := (B98.out).c1
  have l103 := (B98.out).c2
  have l104 := (B99.out).c0
  have l105 := (B99.out).c1
  have l106 := (B99.out).c2
  go_wp2_with fail
  clear l101 l102 l103 l104 l105 l106
  refine (c2w_ok H2 1 false (some ⟨b2, o2, none⟩) sc2 sz2 sz2.length rfl da2 dc2 dz2 dz2.length rfl false (some ⟨b3, o3, none⟩) sc3 sz3 sz3.length rfl da3 dc3 dz3 dz3.length rfl _ (by unfold In64; decide) x21 x22 ((HI2.out.1.1.below hb100.out).mono hb100.out.size) ((HI2.out.2.1.1.below hb100.out).mono hb100.out.size) HI2.out.2.2.2 x31 x32 ((HI3.out.1.1.below hb100.out).mono hb100.out.size) ((HI3.out.2.1.1.below hb100.out).mono hb100.out.size) HI3.out.2.2.2 sz2 D0 HQ1.out).mono ?_
  rintro e v8 ⟨xa0, xc0, ya0, yc0, rfl, hX0, hY0, hB⟩
  have z107 : v7.heap.size ≤ v8.heap.size := hB.size
  have B108 : Hid (Abx v8 (w.heap.size) (.bool false) (.slice (some ⟨b1, o1, none⟩) sz1.length sc1) (.slice da1 dz1.length dc1)) := B97.out.go hB
  have B109 : Hid (Abx v8 (w.heap.size + 1) (.bool false) (.slice (some ⟨b2, o2, none⟩) sz2.length sc2) (.slice da2 dz2.length dc2)) := B98.out.go hB
  have B110 : Hid (Abx v8 (w.heap.size + 1 + 1) (.bool false) (.slice (some ⟨b3, o3, none⟩) sz3.length sc3) (.slice da3 dz3.length dc3)) := B99.out.go hB
  have hb111 : Hid (Below w.heap.size w v8) := hb100.out.trans (hB.mono hb100.out.size)
  have L112 : Hid (MidC (v7.heap.size) (v8.heap.size) v8 (xa0) (sz2) (xc0)) := hX0.midc
  have L113 : Hid (MidC (v7.heap.size) (v8.heap.size) v8 (ya0) (D0) (yc0)) := hY0.midc
  clear hB hb100 B97 B98 B99 hX0 hY0
  have n114 := Abx.new v8 (.bool false) (.slice xa0 sz2.length xc0) (.slice ya0 D0.length yc0)
  go_wp2_with fail
  obtain ⟨wo115, hwo115⟩ : ∃ wo115, wo115 = (v8.alloc (.cells #[.bool false, .slice xa0 sz2.length xc0, .slice ya0 D0.length yc0] 25)) := ⟨_, rfl⟩
  rw [← hwo115]
  have z116 : v8.heap.size + 1 ≤ wo115.heap.size := by rw [hwo115]; simp only [World.size_alloc]; omega
  have B117 : Hid (Abx wo115 (w.heap.size) (.bool false) (.slice (some ⟨b1, o1, none⟩) sz1.length sc1) (.slice da1 dz1.length dc1)) := by rw [hwo115]; exact (B108.out.al (.cells #[.bool false, .slice xa0 sz2.length xc0, .slice ya0 D0.length yc0] 25))
  have B118 : Hid (Abx wo115 (w.heap.size + 1) (.bool false) (.slice (some ⟨b2, o2, none⟩) sz2.length sc2) (.slice da2 dz2.length dc2)) := by rw [hwo115]; exact (B109.out.al (.cells #[.bool false, .slice xa0 sz2.length xc0, .slice ya0 D0.length yc0] 25))
  have B119 : Hid (Abx wo115 (w.heap.size + 1 + 1) (.bool false) (.slice (some ⟨b3, o3, none⟩) sz3.length sc3) (.slice da3 dz3.length dc3)) := by rw [hwo115]; exact (B110.out.al (.cells #[.bool false, .slice xa0 sz2.length xc0, .slice ya0 D0.length yc0] 25))
  have B120 : Hid (Abx wo115 (v8.heap.size) (.bool false) (.slice xa0 sz2.length xc0) (.slice ya0 D0.length yc0)) := by rw [hwo115]; exact n114
  have L121 : Hid (MidC (v7.heap.size) (v8.heap.size) wo115 (xa0) (sz2) (xc0)) := by rw [hwo115]; exact (L112.out.al (by omega) (.cells #[.bool false, .slice xa0 sz2.length xc0, .slice ya0 D0.length yc0] 25))
  have L122 : Hid (MidC (v7.heap.size) (v8.heap.size) wo115 (ya0) (D0) (yc0)) := by rw [hwo115]; exact (L113.out.al (by omega) (.cells #[.bool false, .slice xa0 sz2.length xc0, .slice ya0 D0.length yc0] 25))
  have hb123 : Hid (Below w.heap.size w wo115) := by rw [hwo115]; exact (hb111.out.alloc (by omega) (.cells #[.bool false, .slice xa0 sz2.length xc0, .slice ya0 D0.length yc0] 25))
  have zwo115 : w.heap.size ≤ wo115.heap.size := hb123.out.size
  clear hwo115 n114 hb111 B108 B109 B110 L112 L113
  have sx11 : wo115.cell? ⟨b1, o1 + 1, none⟩ = some (.int .i64 n1) := (hb123.out.cell (p := ⟨b1, o1 + 1, none⟩) HC1.out.1).trans HC1.out.2.2
  have sx20 : wo115.cell? ⟨b2, o2, none⟩ = some (.int .i64 m2) := (hb123.out.cell (p := ⟨b2, o2, none⟩) HC2.out.1).trans HC2.out.2.1
  have hb0 : Below wo115.heap.size wo115 wo115.drew := (Below.refl _ wo115).drew
  refine anyC_begin (fun w' => w'.cell? ⟨w.heap.size, 0, none⟩ = some (.bool false) ∧ w'.cell? ⟨w.heap.size, 1, none⟩ = some (.slice (some ⟨b1, o1, none⟩) sz1.length sc1) ∧ w'.cell? ⟨w.heap.size, 2, none⟩ = some (.slice da1 dz1.length dc1) ∧ w'.cell? ⟨w.heap.size + 1, 0, none⟩ = some (.bool false) ∧ w'.cell? ⟨w.heap.size + 1, 1, none⟩ = some (.slice (some ⟨b2, o2, none⟩) sz2.length sc2) ∧ w'.cell? ⟨w.heap.size + 1, 2, none⟩ = some (.slice da2 dz2.length dc2) ∧ w'.cell? ⟨b1, o1 + 1, none⟩ = some (.int .i64 n1) ∧ w'.cell? ⟨b2, o2, none⟩ = some (.int .i64 m2)) 9 #[false, false, false, false, false, false, false, false, false] (by kernel_rfl) rfl rfl ?_
  refine anyC_put 0 83 ?rv551 #[true, false, false, false, false, false, false, false, false] rfl rfl rfl (by kernel_rfl) (by kernel_rfl) (by kernel_rfl) (fun _ _ _ h => h) ?ry551 (⟨(B117.out.go hb0).c0, (B117.out.go hb0).c1, (B117.out.go hb0).c2, (B118.out.go hb0).c0, (B118.out.go hb0).c1, (B118.out.go hb0).c2, cell_to sx11 hb0, cell_to sx20 hb0⟩) ?rm551
  case ry551 => first | exact Or.inl ⟨by rfl, by intro w'; go_simp; first | done | rfl⟩
  case rm551 =>
  simp only [Act.put, List.setIfInBounds_toArray, List.set_cons_zero, List.set_cons_succ]
  refine anyC_take 1 84 ?rv552 #[true, true, false, false, false, false, false, false, false] rfl rfl rfl (by kernel_rfl) (by kernel_rfl) (by kernel_rfl) (fun _ _ _ h => h) ?ry552 (⟨(B117.out.go hb0).c0, (B117.out.go hb0).c1, (B117.out.go hb0).c2, (B118.out.go hb0).c0, (B118.out.go hb0).c1, (B118.out.go hb0).c2, cell_to sx11 hb0, cell_to sx20 hb0⟩) ?rm552
  case ry552 => first | exact Or.inl ⟨by rfl, by intro w' hw'; (try dsimp only at hw'); go_simp; first | done | rfl⟩
  case rm552 =>
  simp only [Act.put, List.setIfInBounds_toArray, List.set_cons_zero, List.set_cons_succ]
  refine anyC_put 2 85 ?rv553 #[true, true, true, false, false, false, false, false, false] rfl rfl rfl (by kernel_rfl) (by kernel_rfl) (by kernel_rfl) (fun _ _ _ h => h) ?ry553 (⟨(B117.out.go hb0).c0, (B117.out.go hb0).c1, (B117.out.go hb0).c2, (B118.out.go hb0).c0, (B118.out.go hb0).c1, (B118.out.go hb0).c2, cell_to sx11 hb0, cell_to sx20 hb0⟩) ?rm553
  case ry553 => first | exact Or.inl ⟨by rfl, by intro w'; go_simp; first | done | rfl⟩
  case rm553 =>
  simp only [Act.put, List.setIfInBounds_toArray, List.set_cons_zero, List.set_cons_succ]
  refine anyC_take 3 86 ?rv554 #[true, true, true, true, false, false, false, false, false] rfl rfl rfl (by kernel_rfl) (by kernel_rfl) (by kernel_rfl) (fun _ _ _ h => h) ?ry554 (⟨(B117.out.go hb0).c0, (B117.out.go hb0).c1, (B117.out.go hb0).c2, (B118.out.go hb0).c0, (B118.out.go hb0).c1, (B118.out.go hb0).c2, cell_to sx11 hb0, cell_to sx20 hb0⟩) ?rm554
  case ry554 => first | exact Or.inl ⟨by rfl, by intro w' hw'; (try dsimp only at hw'); go_simp; first | done | rfl⟩
  case rm554 =>
  simp only [Act.put, List.setIfInBounds_toArray, List.set_cons_zero, List.set_cons_succ]
  refine anyC_put 4 87 ?rv555 #[true, true, true, true, true, false, false, false, false] rfl rfl rfl (by kernel_rfl) (by kernel_rfl) (by kernel_rfl) (fun _ _ _ h => h) ?ry555 (⟨(B117.out.go hb0).c0, (B117.out.go hb0).c1, (B117.out.go hb0).c2, (B118.out.go hb0).c0, (B118.out.go hb0).c1, (B118.out.go hb0).c2, cell_to sx11 hb0, cell_to sx20 hb0⟩) ?rm555
  case ry555 => first | exact Or.inl ⟨by rfl, by intro w'; go_simp; first | done | rfl⟩
  case rm555 =>
  simp only [Act.put, List.setIfInBounds_toArray, List.set_cons_zero, List.set_cons_succ]
  refine anyC_take 5 88 ?rv556 #[true, true, true, true, true, true, false, false, false] rfl rfl rfl (by kernel_rfl) (by kernel_rfl) (by kernel_rfl) (fun _ _ _ h => h) ?ry556 (⟨(B117.out.go hb0).c0, (B117.out.go hb0).c1, (B117.out.go hb0).c2, (B118.out.go hb0).c0, (B118.out.go hb0).c1, (B118.out.go hb0).c2, cell_to sx11 hb0, cell_to sx20 hb0⟩) ?rm556
  case ry556 => first | exact Or.inl ⟨by rfl, by intro w' hw'; (try dsimp only at hw'); go_simp; first | done | rfl⟩
  case rm556 =>
  simp only [Act.put, List.setIfInBounds_toArray, List.set_cons_zero, List.set_cons_succ]
  refine anyC_put 6 89 ?rv557 #[true, true, true, true, true, true, true, false, false] rfl rfl rfl (by kernel_rfl) (by kernel_rfl) (by kernel_rfl) (fun _ _ _ h => h) ?ry557 (⟨(B117.out.go hb0).c0, (B117.out.go hb0).c1, (B117.out.go hb0).c2, (B118.out.go hb0).c0, (B118.out.go hb0).c1, (B118.out.go hb0).c2, cell_to sx11 hb0, cell_to sx20 hb0⟩) ?rm557
  case ry557 => first | exact Or.inl ⟨by rfl, by intro w'; go_simp; first | done | rfl⟩
  case rm557 =>
  simp only [Act.put, List.setIfInBounds_toArray, List.set_cons_zero, List.set_cons_succ]
  refine anyC_take 7 90 ?rv558 #[true, true, true, true, true, true, true, true, false] rfl rfl rfl (by kernel_rfl) (by kernel_rfl) (by kernel_rfl) (fun _ _ _ h => h) ?ry558 (⟨(B117.out.go hb0).c0, (B117.out.go hb0).c1, (B117.out.go hb0).c2, (B118.out.go hb0).c0, (B118.out.go hb0).c1, (B118.out.go hb0).c2, cell_to sx11 hb0, cell_to sx20 hb0⟩) ?rm558
  case ry558 => first | exact Or.inl ⟨by rfl, by intro w' hw'; (try dsimp only at hw'); go_simp; first | done | rfl⟩
  case rm558 =>
  simp only [Act.put, List.setIfInBounds_toArray, List.set_cons_zero, List.set_cons_succ]
  refine anyC_put 8 91 ?rv559 #[true, true, true, true, true, true, true, true, true] rfl rfl rfl (by kernel_rfl) (by kernel_rfl) (by kernel_rfl) (fun _ _ _ h => h) ?ry559 (⟨(B117.out.go hb0).c0, (B117.out.go hb0).c1, (B117.out.go hb0).c2, (B118.out.go hb0).c0, (B118.out.go hb0).c1, (B118.out.go hb0).c2, cell_to sx11 hb0, cell_to sx20 hb0⟩) ?rm559
  case ry559 => first | exact Or.inl ⟨by rfl, by intro w'; go_simp; first | done | rfl⟩
  case rm559 =>
  simp only [Act.put, List.setIfInBounds_toArray, List.set_cons_zero, List.set_cons_succ]
  refine anyC_done (by kernel_rfl) ?_
  have hB := hb0
  have z124 : wo115.heap.size ≤ wo115.drew.heap.size := hB.size
  have B125 : Hid (Abx wo115.drew (w.heap.size) (.bool false) (.slice (some ⟨b1, o1, none⟩) sz1.length sc1) (.slice da1 dz1.length dc1)) := B117.out.go hB
  have B126 : Hid (Abx wo115.drew (w.heap.size + 1) (.bool false) (.slice (some ⟨b2, o2, none⟩) sz2.length sc2) (.slice da2 dz2.length dc2)) := B118.out.go hB
  have B127 : Hid (Abx wo115.drew (w.heap.size + 1 + 1) (.bool false) (.slice (some ⟨b3, o3, none⟩) sz3.length sc3) (.slice da3 dz3.length dc3)) := B119.out.go hB
  have B128 : Hid (Abx wo115.drew (v8.heap.size) (.bool false) (.slice xa0 sz2.length xc0) (.slice ya0 D0.length yc0)) := B120.out.go hB
  have L129 : Hid (MidC (v7.heap.size) (v8.heap.size) wo115.drew (xa0) (sz2) (xc0)) := L121.out.go (by omega) hB
  have L130 : Hid (MidC (v7.heap.size) (v8.heap.size) wo115.drew (ya0) (D0) (yc0)) := L122.out.go (by omega) hB
  have hb131 : Hid (Below w.heap.size w wo115.drew) := hb123.out.trans (hB.mono hb123.out.size)
  clear hB hb123 B117 B118 B119 B120 L121 L122
  have l132 := (B125.out).c0
  have l133 := (B125.out).c1
  have l134 := (B125.out).c2
  have l135 := (B128.out).c0
  have l136 := (B128.out).c1
  have l137 := (B128.out).c2
  go_wp2_with fail
  clear l132 l133 l134 l135 l136 l137
  refine (niw_ok 1 3 false (some ⟨b1, o1, none⟩) sc1 sz1 sz1.length rfl da1 dc1 dz1 dz1.length rfl false xa0 xc0 sz2 sz2.length rfl ya0 yc0 D0 D0.length rfl _ (by unfold In64; decide) (by unfold In64; decide) x11 x12 ((HI1.out.1.below hb131.out).mono hb131.out.size) ((HI1.out.2.1.1.below hb131.out).mono hb131.out.size) HI1.out.2.2.2 (by omega) (by omega) (L129.out.is (by omega)) (L130.out.is (by omega)).1 HQ2.out S DX HNi HR1.out).mono ?_
  rintro e v9 ⟨xa51, xc51, ya51, yc51, rfl, hX51, hY51, hB⟩
  have z138 : wo115.drew.heap.size ≤ v9.heap.size := hB.size
  have B139 : Hid (Abx v9 (w.heap.size) (.bool false) (.slice (some ⟨b1, o1, none⟩) sz1.length sc1) (.slice da1 dz1.length dc1)) := B125.out.go hB
  have B140 : Hid (Abx v9 (w.heap.size + 1) (.bool false) (.slice (some ⟨b2, o2, none⟩) sz2.length sc2) (.slice da2 dz2.length dc2)) := B126.out.go hB
  have B141 : Hid (Abx v9 (w.heap.size + 1 + 1) (.bool false) (.slice (some ⟨b3, o3, none⟩) sz3.length sc3) (.slice da3 dz3.length dc3)) := B127.out.go hB
  have B142 : Hid (Abx v9 (v8.heap.size) (.bool false) (.slice xa0 sz2.length xc0) (.slice ya0 D0.length yc0)) := B128.out.go hB
  have L143 : Hid (MidC (v7.heap.size) (v8.heap.size) v9 (xa0) (sz2) (xc0)) := L129.out.go (by omega) hB
  have L144 : Hid (MidC (v7.heap.size) (v8.heap.size) v9 (ya0) (D0) (yc0)) := L130.out.go (by omega) hB
  have hb145 : Hid (Below w.heap.size w v9) := hb131.out.trans (hB.mono hb131.out.size)
  have L146 : Hid (MidC (wo115.drew.heap.size) (v9.heap.size) v9 (xa51) (S) (xc51)) := hX51.midc
  have L147 : Hid (MidC (wo115.drew.heap.size) (v9.heap.size) v9 (ya51) (DX) (yc51)) := hY51.midc
  clear hB hb131 B125 B126 B127 B128 L129 L130 hX51 hY51
  have n148 := Abx.new v9 (.bool false) (.slice xa51 S.length xc51) (.slice ya51 DX.length yc51)
  have l149 := ((B139.out.al (.cells #[.bool false, .slice xa51 S.length xc51, .slice ya51 DX.length yc51] 25))).c0
  have l150 := ((B139.out.al (.cells #[.bool false, .slice xa51 S.length xc51, .slice ya51 DX.length yc51] 25))).c1
  have l151 := ((B139.out.al (.cells #[.bool false, .slice xa51 S.length xc51, .slice ya51 DX.length yc51] 25))).c2
  have l152 := ((B140.out.al (.cells #[.bool false, .slice xa51 S.length xc51, .slice ya51 DX.length yc51] 25))).c0
  have l153 := ((B140.out.al (.cells #[.bool false, .slice xa51 S.length xc51, .slice ya51 DX.length yc51] 25))).c1
  have l154 := ((B140.out.al (.cells #[.bool false, .slice xa51 S.length xc51, .slice ya51 DX.length yc51] 25))).c2
  go_wp2_with fail
  obtain ⟨wo155, hwo155⟩ : ∃ wo155, wo155 = (v9.alloc (.cells #[.bool false, .slice xa51 S.length xc51, .slice ya51 DX.length yc51] 25)) := ⟨_, rfl⟩
  rw [← hwo155]
  have z156 : v9.heap.size + 1 ≤ wo155.heap.size := by rw [hwo155]; simp only [World.size_alloc]; omega
  have B157 : Hid (Abx wo155 (w.heap.size) (.bool false) (.slice (some ⟨b1, o1, none⟩) sz1.length sc1) (.slice da1 dz1.length dc1)) := by rw [hwo155]; exact (B139.out.al (.cells #[.bool false, .slice xa51 S.length xc51, .slice ya51 DX.length yc51] 25))
  have B158 : Hid (Abx wo155 (w.heap.size + 1) (.bool false) (.slice (some ⟨b2, o2, none⟩) sz2.length sc2) (.slice da2 dz2.length dc2)) := by rw [hwo155]; exact (B140.out.al (.cells #[.bool false, .slice xa51 S.length xc51, .slice ya51 DX.length yc51] 25))
  have B159 : Hid (Abx wo155 (w.heap.size + 1 + 1) (.bool false) (.slice (some ⟨b3, o3, none⟩) sz3.length sc3) (.slice da3 dz3.length dc3)) := by rw [hwo155]; exact (B141.out.al (.cells #[.bool false, .slice xa51 S.length xc51, .slice ya51 DX.length yc51] 25))
  have B160 : Hid (Abx wo155 (v8.heap.size) (.bool false) (.slice xa0 sz2.length xc0) (.slice ya0 D0.length yc0)) := by rw [hwo155]; exact (B142.out.al (.cells #[.bool false, .slice xa51 S.length xc51, .slice ya51 DX.length yc51] 25))
  have B161 : Hid (Abx wo155 (v9.heap.size) (.bool false) (.slice xa51 S.length xc51) (.slice ya51 DX.length yc51)) := by rw [hwo155]; exact n148
  have L162 : Hid (MidC (v7.heap.size) (v8.heap.size) wo155 (xa0) (sz2) (xc0)) := by rw [hwo155]; exact (L143.out.al (by omega) (.cells #[.bool false, .slice xa51 S.length xc51, .slice ya51 DX.length yc51] 25))
  have L163 : Hid (MidC (v7.heap.size) (v8.heap.size) wo155 (ya0) (D0) (yc0)) := by rw [hwo155]; exact (L144.out.al (by omega) (.cells #[.bool false, .slice xa51 S.length xc51, .slice ya51 DX.length yc51] 25))
  have L164 : Hid (MidC (wo115.drew.heap.size) (v9.heap.size) wo155 (xa51) (S) (xc51)) := by rw [hwo155]; exact (L146.out.al (by omega) (.cells #[.bool false, .slice xa51 S.length xc51, .slice ya51 DX.length yc51] 25))
  have L165 : Hid (MidC (wo115.drew.heap.size) (v9.heap.size) wo155 (ya51) (DX) (yc51)) := by rw [hwo155]; exact (L147.out.al (by omega) (.cells #[.bool false, .slice xa51 S.length xc51, .slice ya51 DX.length yc51] 25))
  have hb166 : Hid (Below w.heap.size w wo155) := by rw [hwo155]; exact (hb145.out.alloc (by omega) (.cells #[.bool false, .slice xa51 S.length xc51, .slice ya51 DX.length yc51] 25))
  have zwo155 : w.heap.size ≤ wo155.heap.size := hb166.out.size
  clear hwo155 n148 l149 l150 l151 l152 l153 l154 hb145 B139 B140 B141 B142 L143 L144 L146 L147
  refine (niw_ok 1 3 false (some ⟨b1, o1, none⟩) sc1 sz1 sz1.length rfl da1 dc1 dz1 dz1.length rfl false (some ⟨b2, o2, none⟩) sc2 sz2 sz2.length rfl da2 dc2 dz2 dz2.length rfl _ (by unfold In64; decide) (by unfold In64; decide) x11 x12 ((HI1.out.1.below hb166.out).mono hb166.out.size) ((HI1.out.2.1.1.below hb166.out).mono hb166.out.size) HI1.out.2.2.2 x21 x22 ((HI2.out.1.below hb166.out).mono hb166.out.size) ((HI2.out.2.1.1.below hb166.out).mono hb166.out.size) HI2.out.2.2.2 S DP HNi HR2.out).mono ?_
  rintro e v10 ⟨xa52, xc52, ya52, yc52, rfl, hX52, hY52, hB⟩
  have z167 : wo155.heap.size ≤ v10.heap.size := hB.size
  have B168 : Hid (Abx v10 (w.heap.size) (.bool false) (.slice (some ⟨b1, o1, none⟩) sz1.length sc1) (.slice da1 dz1.length dc1)) := B157.out.go hB
  have B169 : Hid (Abx v10 (w.heap.size + 1) (.bool false) (.slice (some ⟨b2, o2, none⟩) sz2.length sc2) (.slice da2 dz2.length dc2)) := B158.out.go hB
  have B170 : Hid (Abx v10 (w.heap.size + 1 + 1) (.bool false) (.slice (some ⟨b3, o3, none⟩) sz3.length sc3) (.slice da3 dz3.length dc3)) := B159.out.go hB
  have B171 : Hid (Abx v10 (v8.heap.size) (.bool false) (.slice xa0 sz2.length xc0) (.slice ya0 D0.length yc0)) := B160.out.go hB
  have B172 : Hid (Abx v10 (v9.heap.size) (.bool false) (.slice xa51 S.length xc51) (.slice ya51 DX.length yc51)) := B161.out.go hB
  have L173 : Hid (MidC (v7.heap.size) (v8.heap.size) v10 (xa0) (sz2) (xc0)) := L162.out.go (by omega) hB
  have L174 : Hid (MidC (v7.heap.size) (v8.heap.size) v10 (ya0) (D0) (yc0)) := L163.out.go (by omega) hB
  have L175 : Hid (MidC (wo115.drew.heap.size) (v9.heap.size) v10 (xa51) (S) (xc51)) := L164.out.go (by omega) hB
  have L176 : Hid (MidC (wo115.drew.heap.size) (v9.heap.size) v10 (ya51) (DX) (yc51)) := L165.out.go (by omega) hB
  have hb177 : Hid (Below w.heap.size w v10) := hb166.out.trans (hB.mono hb166.out.size)
  have L178 : Hid (MidC (wo155.heap.size) (v10.heap.size) v10 (xa52) (S) (xc52)) := hX52.midc
  have L179 : Hid (MidC (wo155.heap.size) (v10.heap.size) v10 (ya52) (DP) (yc52)) := hY52.midc
  clear hB hb166 B157 B158 B159 B160 B161 L162 L163 L164 L165 hX52 hY52
  have n180 := Abx.new v10 (.bool false) (.slice xa52 S.length xc52) (.slice ya52 DP.length yc52)
  have l181 := ((B168.out.al (.cells #[.bool false, .slice xa52 S.length xc52, .slice ya52 DP.length yc52] 25))).c0
  have l182 := ((B168.out.al (.cells #[.bool false, .slice xa52 S.length xc52, .slice ya52 DP.length yc52] 25))).c1
  have l183 := ((B168.out.al (.cells #[.bool false, .slice xa52 S.length xc52, .slice ya52 DP.length yc52] 25))).c2
  have l184 := ((B170.out.al (.cells #[.bool false, .slice xa52 S.length xc52, .slice ya52 DP.length yc52] 25))).c0
  have l185 := ((B170.out.al (.cells #[.bool false, .slice xa52 S.length xc52, .slice ya52 DP.length yc52] 25))).c1
  have l186 := ((B170.out.al (.cells #[.bool false, .slice xa52 S.length xc52, .slice ya52 DP.length yc52] 25))).c2
  go_wp2_with fail
  obtain ⟨wo187, hwo187⟩ : ∃ wo187, wo187 = (v10.alloc (.cells #[.bool false, .slice xa52 S.length xc52, .slice ya52 DP.length yc52] 25)) := ⟨_, rfl⟩
  rw [← hwo187]
  have z188 : v10.heap.size + 1 ≤ wo187.heap.size := by rw [hwo187]; simp only [World.size_alloc]; omega
  have B189 : Hid (Abx wo187 (w.heap.size) (.bool false) (.slice (some ⟨b1, o1, none⟩) sz1.length sc1) (.slice da1 dz1.length dc1)) := by rw [hwo187]; exact (B168.out.al (.cells #[.bool false, .slice xa52 S.length xc52, .slice ya52 DP.length yc52] 25))
  have B190 : Hid (Abx wo187 (w.heap.size + 1) (.bool false) (.slice (some ⟨b2, o2, none⟩) sz2.length sc2) (.slice da2 dz2.length dc2)) := by rw [hwo187]; exact (B169.out.al (.cells #[.bool false, .slice xa52 S.length xc52, .slice ya52 DP.length yc52] 25))
  have B191 : Hid (Abx wo187 (w.heap.size + 1 + 1) (.bool false) (.slice (some ⟨b3, o3, none⟩) sz3.length sc3) (.slice da3 dz3.length dc3)) := by rw [hwo187]; exact (B170.out.al (.cells #[.bool false, .slice xa52 S.length xc52, .slice ya52 DP.length yc52] 25))
  have B192 : Hid (Abx wo187 (v8.heap.size) (.bool false) (.slice xa0 sz2.length xc0) (.slice ya0 D0.length yc0)) := by rw [hwo187]; exact (B171.out.al (.cells #[.bool false, .slice xa52 S.length xc52, .slice ya52 DP.length yc52] 25))
  have B193 : Hid (Abx wo187 (v9.heap.size) (.bool false) (.slice xa51 S.length xc51) (.slice ya51 DX.length yc51)) := by rw [hwo187]; exact (B172.out.al (.cells #[.bool false, .slice xa52 S.length xc52, .slice ya52 DP.length yc52] 25))
  have B194 : Hid (Abx wo187 (v10.heap.size) (.bool false) (.slice xa52 S.length xc52) (.slice ya52 DP.length yc52)) := by rw [hwo187]; exact n180
  have L195 : Hid (MidC (v7.heap.size) (v8.heap.size) wo187 (xa0) (sz2) (xc0)) := by rw [hwo187]; exact (L173.out.al (by omega) (.cells #[.bool false, .slice xa52 S.length xc52, .slice ya52 DP.length yc52] 25))
  have L196 : Hid (MidC (v7.heap.size) (v8.heap.size) wo187 (ya0) (D0) (yc0)) := by rw [hwo187]; exact (L174.out.al (by omega) (.cells #[.bool false, .slice xa52 S.length xc52, .slice ya52 DP.length yc52] 25))
  have L197 : Hid (MidC (wo115.drew.heap.size) (v9.heap.size) wo187 (xa51) (S) (xc51)) := by rw [hwo187]; exact (L175.out.al (by omega) (.cells #[.bool false, .slice xa52 S.length xc52, .slice ya52 DP.length yc52] 25))
  have L198 : Hid (MidC (wo115.drew.heap.size) (v9.heap.size) wo187 (ya51) (DX) (yc51)) := by rw [hwo187]; exact (L176.out.al (by omega) (.cells #[.bool false, .slice xa52 S.length xc52, .slice ya52 DP.length yc52] 25))
  have L199 : Hid (MidC (wo155.heap.size) (v10.heap.size) wo187 (xa52) (S) (xc52)) := by rw [hwo187]; exact (L178.out.al (by omega) (.cells #[.bool false, .slice xa52 S.length xc52, .slice ya52 DP.length yc52] 25))
  have L200 : Hid (MidC (wo155.heap.size) (v10.heap.size) wo187 (ya52) (DP) (yc52)) := by rw [hwo187]; exact (L179.out.al (by omega) (.cells #[.bool false, .slice xa52 S.length xc52, .slice ya52 DP.length yc52] 25))
  have hb201 : Hid (Below w.heap.size w wo187) := by rw [hwo187]; exact (hb177.out.alloc (by omega) (.cells #[.bool false, .slice xa52 S.length xc52, .slice ya52 DP.length yc52] 25))
  have zwo187 : w.heap.size ≤ wo187.heap.size := hb201.out.size
  clear hwo187 n180 l181 l182 l183 l184 l185 l186 hb177 B168 B169 B170 B171 B172 L173 L174 L175 L176 L178 L179
  refine (niw_ok 1 3 false (some ⟨b1, o1, none⟩) sc1 sz1 sz1.length rfl da1 dc1 dz1 dz1.length rfl false (some ⟨b3, o3, none⟩) sc3 sz3 sz3.length rfl da3 dc3 dz3 dz3.length rfl _ (by unfold In64; decide) (by unfold In64; decide) x11 x12 ((HI1.out.1.below hb201.out).mono hb201.out.size) ((HI1.out.2.1.1.below hb201.out).mono hb201.out.size) HI1.out.2.2.2 x31 x32 ((HI3.out.1.below hb201.out).mono hb201.out.size) ((HI3.out.2.1.1.below hb201.out).mono hb201.out.size) HI3.out.2.2.2 S DQ HNi HR3.out).mono ?_
  rintro e v11 ⟨xa53, xc53, ya53, yc53, rfl, hX53, hY53, hB⟩
  have z202 : wo187.heap.size ≤ v11.heap.size := hB.size
  have B203 : Hid (Abx v11 (w.heap.size) (.bool false) (.slice (some ⟨b1, o1, none⟩) sz1.length sc1) (.slice da1 dz1.length dc1)) := B189.out.go hB
  have B204 : Hid (Abx v11 (w.heap.size + 1) (.bool false) (.slice (some ⟨b2, o2, none⟩) sz2.length sc2) (.slice da2 dz2.length dc2)) := B190.out.go hB
  have B205 : Hid (Abx v11 (w.heap.size + 1 + 1) (.bool false) (.slice (some ⟨b3, o3, none⟩) sz3.length sc3) (.slice da3 dz3.length dc3)) := B191.out.go hB
  have B206 : Hid (Abx v11 (v8.heap.size) (.bool false) (.slice xa0 sz2.length xc0) (.slice ya0 D0.length yc0)) := B192.out.go hB
  have B207 : Hid (Abx v11 (v9.heap.size) (.bool false) (.slice xa51 S.length xc51) (.slice ya51 DX.length yc51)) := B193.out.go hB
  have B208 : Hid (Abx v11 (v10.heap.size) (.bool false) (.slice xa52 S.length xc52) (.slice ya52 DP.length yc52)) := B194.out.go hB
  have L209 : Hid (MidC (v7.heap.size) (v8.heap.size) v11 (xa0) (sz2) (xc0)) := L195.out.go (by omega) hB
  have L210 : Hid (MidC (v7.heap.size) (v8.heap.size) v11 (ya0) (D0) (yc0)) := L196.out.go (by omega) hB
  have L211 : Hid (MidC (wo115.drew.heap.size) (v9.heap.size) v11 (xa51) (S) (xc51)) := L197.out.go (by omega) hB
  have L212 : Hid (MidC (wo115.drew.heap.size) (v9.heap.size) v11 (ya51) (DX) (yc51)) := L198.out.go (by omega) hB
  have L213 : Hid (MidC (wo155.heap.size) (v10.heap.size) v11 (xa52) (S) (xc52)) := L199.out.go (by omega) hB
  have L214 : Hid (MidC (wo155.heap.size) (v10.heap.size) v11 (ya52) (DP) (yc52)) := L200.out.go (by omega) hB
  have hb215 : Hid (Below w.heap.size w v11) := hb201.out.trans (hB.mono hb201.out.size)
  have L216 : Hid (MidC (wo187.heap.size) (v11.heap.size) v11 (xa53) (S) (xc53)) := hX53.midc
  have L217 : Hid (MidC (wo187.heap.size) (v11.heap.size) v11 (ya53) (DQ) (yc53)) := hY53.midc
  clear hB hb201 B189 B190 B191 B192 B193 B194 L195 L196 L197 L198 L199 L200 hX53 hY53
  have n218 := Abx.new v11 (.bool false) (.slice xa53 S.length xc53) (.slice ya53 DQ.length yc53)
  have l219 := ((B208.out.al (.cells #[.bool false, .slice xa53 S.length xc53, .slice ya53 DQ.length yc53] 25))).c0
  have l220 := ((B208.out.al (.cells #[.bool false, .slice xa53 S.length xc53, .slice ya53 DQ.length yc53] 25))).c1
  have l221 := ((B208.out.al (.cells #[.bool false, .slice xa53 S.length xc53, .slice ya53 DQ.length yc53] 25))).c2
  have l222 := (n218).c0
  have l223 := (n218).c1
  have l224 := (n218).c2
  go_wp2_with fail
  obtain ⟨wo225, hwo225⟩ : ∃ wo225, wo225 = (v11.alloc (.cells #[.bool false, .slice xa53 S.length xc53, .slice ya53 DQ.length yc53] 25)) := ⟨_, rfl⟩
  rw [← hwo225]
  have z226 : v11.heap.size + 1 ≤ wo225.heap.size := by rw [hwo225]; simp only [World.size_alloc]; omega
  have B227 : Hid (Abx wo225 (w.heap.size) (.bool false) (.slice (some ⟨b1, o1, none⟩) sz1.length sc1) (.slice da1 dz1.length dc1)) := by rw [hwo225]; exact (B203.out.al (.cells #[.bool false, .slice xa53 S.length xc53, .slice ya53 DQ.length yc53] 25))
  have B228 : Hid (Abx wo225 (w.heap.size + 1) (.bool false) (.slice (some ⟨b2, o2, none⟩) sz2.length sc2) (.slice da2 dz2.length dc2)) := by rw [hwo225]; exact (B204.out.al (.cells #[.bool false, .slice xa53 S.length xc53, .slice ya53 DQ.length yc53] 25))
  have B229 : Hid (Abx wo225 (w.heap.size + 1 + 1) (.bool false) (.slice (some ⟨b3, o3, none⟩) sz3.length sc3) (.slice da3 dz3.length dc3)) := by rw [hwo225]; exact (B205.out.al (.cells #[.bool false, .slice xa53 S.length xc53, .slice ya53 DQ.length yc53] 25))
  have B230 : Hid (Abx wo225 (v8.heap.size) (.bool false) (.slice xa0 sz2.length xc0) (.slice ya0 D0.length yc0)) := by rw [hwo225]; exact (B206.out.al (.cells #[.bool false, .slice xa53 S.length xc53, .slice ya53 DQ.length yc53] 25))
  have B231 : Hid (Abx wo225 (v9.heap.size) (.bool false) (.slice xa51 S.length xc51) (.slice ya51 DX.length yc51)) := by rw [hwo225]; exact (B207.out.al (.cells #[.bool false, .slice xa53 S.length xc53, .slice ya53 DQ.length yc53] 25))
  have B232 : Hid (Abx wo225 (v10.heap.size) (.bool false) (.slice xa52 S.length xc52) (.slice ya52 DP.length yc52)) := by rw [hwo225]; exact (B208.out.al (.cells #[.bool false, .slice xa53 S.length xc53, .slice ya53 DQ.length yc53] 25))
  have B233 : Hid (Abx wo225 (v11.heap.size) (.bool false) (.slice xa53 S.length xc53) (.slice ya53 DQ.length yc53)) := by rw [hwo225]; exact n218
  have L234 : Hid (MidC (v7.heap.size) (v8.heap.size) wo225 (xa0) (sz2) (xc0)) := by rw [hwo225]; exact (L209.out.al (by omega) (.cells #[.bool false, .slice xa53 S.length xc53, .slice ya53 DQ.length yc53] 25))
  have L235 : Hid (MidC (v7.heap.size) (v8.heap.size) wo225 (ya0) (D0) (yc0)) := by rw [hwo225]; exact (L210.out.al (by omega) (.cells #[.bool false, .slice xa53 S.length xc53, .slice ya53 DQ.length yc53] 25))
  have L236 : Hid (MidC (wo115.drew.heap.size) (v9.heap.size) wo225 (xa51) (S) (xc51)) := by rw [hwo225]; exact (L211.out.al (by omega) (.cells #[.bool false, .slice xa53 S.length xc53, .slice ya53 DQ.length yc53] 25))
  have L237 : Hid (MidC (wo115.drew.heap.size) (v9.heap.size) wo225 (ya51) (DX) (yc51)) := by rw [hwo225]; exact (L212.out.al (by omega) (.cells #[.bool false, .slice xa53 S.length xc53, .slice ya53 DQ.length yc53] 25))
  have L238 : Hid (MidC (wo155.heap.size) (v10.heap.size) wo225 (xa52) (S) (xc52)) := by rw [hwo225]; exact (L213.out.al (by omega) (.cells #[.bool false, .slice xa53 S.length xc53, .slice ya53 DQ.length yc53] 25))
  have L239 : Hid (MidC (wo155.heap.size) (v10.heap.size) wo225 (ya52) (DP) (yc52)) := by rw [hwo225]; exact (L214.out.al (by omega) (.cells #[.bool false, .slice xa53 S.length xc53, .slice ya53 DQ.length yc53] 25))
  have L240 : Hid (MidC (wo187.heap.size) (v11.heap.size) wo225 (xa53) (S) (xc53)) := by rw [hwo225]; exact (L216.out.al (by omega) (.cells #[.bool false, .slice xa53 S.length xc53, .slice ya53 DQ.length yc53] 25))
  have L241 : Hid (MidC (wo187.heap.size) (v11.heap.size) wo225 (ya53) (DQ) (yc53)) := by rw [hwo225]; exact (L217.out.al (by omega) (.cells #[.bool false, .slice xa53 S.length xc53, .slice ya53 DQ.length yc53] 25))
  have hb242 : Hid (Below w.heap.size w wo225) := by rw [hwo225]; exact (hb215.out.alloc (by omega) (.cells #[.bool false, .slice xa53 S.length xc53, .slice ya53 DQ.length yc53] 25))
  have zwo225 : w.heap.size ≤ wo225.heap.size := hb242.out.size
  clear hwo225 n218 l219 l220 l221 l222 l223 l224 hb215 B203 B204 B205 B206 B207 B208 L209 L210 L211 L212 L213 L214 L216 L217
  refine (c2w_ok H2 1 false xa52 xc52 S S.length rfl ya52 yc52 DP DP.length rfl false xa53 xc53 S S.length rfl ya53 yc53 DQ DQ.length rfl _ (by unfold In64; decide) (by omega) (by omega) (L238.out.is (by omega)).1 (L239.out.is (by omega)).1 HTT.out.1 (by omega) (by omega) (L240.out.is (by omega)).1 (L241.out.is (by omega)).1 HTT.out.2 S DX HR4.out).mono ?_
  rintro e v12 ⟨xa54, xc54, ya54, yc54, rfl, hX54, hY54, hB⟩
  have z243 : wo225.heap.size ≤ v12.heap.size := hB.size
  have B244 : Hid (Abx v12 (w.heap.size) (.bool false) (.slice (some ⟨b1, o1, none⟩) sz1.length sc1) (.slice da1 dz1.length dc1)) := B227.out.go hB
  have B245 : Hid (Abx v12 (w.heap.size + 1) (.bool false) (.slice (some ⟨b2, o2, none⟩) sz2.length sc2) (.slice da2 dz2.length dc2)) := B228.out.go hB
  have B246 : Hid (Abx v12 (w.heap.size + 1 + 1) (.bool false) (.slice (some ⟨b3, o3, none⟩) sz3.length sc3) (.slice da3 dz3.length dc3)) := B229.out.go hB
  have B247 : Hid (Abx v12 (v8.heap.size) (.bool false) (.slice xa0 sz2.length xc0) (.slice ya0 D0.length yc0)) := B230.out.go hB
  have B248 : Hid (Abx v12 (v9.heap.size) (.bool false) (.slice xa51 S.length xc51) (.slice ya51 DX.length yc51)) := B231.out.go hB
  have B249 : Hid (Abx v12 (v10.heap.size) (.bool false) (.slice xa52 S.length xc52) (.slice ya52 DP.length yc52)) := B232.out.go hB
  have B250 : Hid (Abx v12 (v11.heap.size) (.bool false) (.slice xa53 S.length xc53) (.slice ya53 DQ.length yc53)) := B233.out.go hB
  have L251 : Hid (MidC (v7.heap.size) (v8.heap.size) v12 (xa0) (sz2) (xc0)) := L234.out.go (by omega) hB
  have L252 : Hid (MidC (v7.heap.size) (v8.heap.size) v12 (ya0) (D0) (yc0)) := L235.out.go (by omega) hB
  have L253 : Hid (MidC (wo115.drew.heap.size) (v9.heap.size) v12 (xa51) (S) (xc51)) := L236.out.go (by omega) hB
  have L254 : Hid (MidC (wo115.drew.heap.size) (v9.heap.size) v12 (ya51) (DX) (yc51)) := L237.out.go (by omega) hB
  have L255 : Hid (MidC (wo155.heap.size) (v10.heap.size) v12 (xa52) (S) (xc52)) := L238.out.go (by omega) hB
  have L256 : Hid (MidC (wo155.heap.size) (v10.heap.size) v12 (ya52) (DP) (yc52)) := L239.out.go (by omega) hB
  have L257 : Hid (MidC (wo187.heap.size) (v11.heap.size) v12 (xa53) (S) (xc53)) := L240.out.go (by omega) hB
  have L258 : Hid (MidC (wo187.heap.size) (v11.heap.size) v12 (ya53) (DQ) (yc53)) := L241.out.go (by omega) hB
  have hb259 : Hid (Below w.heap.size w v12) := hb242.out.trans (hB.mono hb242.out.size)
  have L260 : Hid (MidC (wo225.heap.size) (v12.heap.size) v12 (xa54) (S) (xc54)) := hX54.midc
  have L261 : Hid (MidC (wo225.heap.size) (v12.heap.size) v12 (ya54) (DX) (yc54)) := hY54.midc
  clear hB hb242 B227 B228 B229 B230 B231 B232 B233 L234 L235 L236 L237 L238 L239 L240 L241 hX54 hY54
  clear L255 L256 L257 L258 B249 B250
  have n262 := Abx.new v12 (.bool false) (.slice xa54 S.length xc54) (.slice ya54 DX.length yc54)
  have l263 := ((B248.out.al (.cells #[.bool false, .slice xa54 S.length xc54, .slice ya54 DX.length yc54] 25))).c0
  have l264 := ((B248.out.al (.cells #[.bool false, .slice xa54 S.length xc54, .slice ya54 DX.length yc54] 25))).c1
  have l265 := ((B248.out.al (.cells #[.bool false, .slice xa54 S.length xc54, .slice ya54 DX.length yc54] 25))).c2
  have l266 := (n262).c0
  have l267 := (n262).c1
  have l268 := (n262).c2
  go_wp2_with fail
  obtain ⟨wo269, hwo269⟩ : ∃ wo269, wo269 = (v12.alloc (.cells #[.bool false, .slice xa54 S.length xc54, .slice ya54 DX.length yc54] 25)) := ⟨_, rfl⟩
  rw [← hwo269]
  have z270 : v12.heap.size + 1 ≤ wo269.heap.size := by rw [hwo269]; simp only [World.size_alloc]; omega
  have B271 : Hid (Abx wo269 (w.heap.size) (.bool false) (.slice (some ⟨b1, o1, none⟩) sz1.length sc1) (.slice da1 dz1.length dc1)) := by rw [hwo269]; exact (B244.out.al (.cells #[.bool false, .slice xa54 S.length xc54, .slice ya54 DX.length yc54] 25))
  have B272 : Hid (Abx wo269 (w.heap.size + 1) (.bool false) (.slice (some ⟨b2, o2, none⟩) sz2.length sc2) (.slice da2 dz2.length dc2)) := by rw [hwo269]; exact (B245.out.al (.cells #[.bool false, .slice xa54 S.length xc54, .slice ya54 DX.length yc54] 25))
  have B273 : Hid (Abx wo269 (w.heap.size + 1 + 1) (.bool false) (.slice (some ⟨b3, o3, none⟩) sz3.length sc3) (.slice da3 dz3.length dc3)) := by rw [hwo269]; exact (B246.out.al (.cells #[.bool false, .slice xa54 S.length xc54, .slice ya54 DX.length yc54] 25))
  have B274 : Hid (Abx wo269 (v8.heap.size) (.bool false) (.slice xa0 sz2.length xc0) (.slice ya0 D0.length yc0)) := by rw [hwo269]; exact (B247.out.al (.cells #[.bool false, .slice xa54 S.length xc54, .slice ya54 DX.length yc54] 25))
  have B275 : Hid (Abx wo269 (v9.heap.size) (.bool false) (.slice xa51 S.length xc51) (.slice ya51 DX.length yc51)) := by rw [hwo269]; exact (B248.out.al (.cells #[.bool false, .slice xa54 S.length xc54, .slice ya54 DX.length yc54] 25))
  have B276 : Hid (Abx wo269 (v12.heap.size) (.bool false) (.slice xa54 S.length xc54) (.slice ya54 DX.length yc54)) := by rw [hwo269]; exact n262
  have L277 : Hid (MidC (v7.heap.size) (v8.heap.size) wo269 (xa0) (sz2) (xc0)) := by rw [hwo269]; exact (L251.out.al (by omega) (.cells #[.bool false, .slice xa54 S.length xc54, .slice ya54 DX.length yc54] 25))
  have L278 : Hid (MidC (v7.heap.size) (v8.heap.size) wo269 (ya0) (D0) (yc0)) := by rw [hwo269]; exact (L252.out.al (by omega) (.cells #[.bool false, .slice xa54 S.length xc54, .slice ya54 DX.length yc54] 25))
  have L279 : Hid (MidC (wo115.drew.heap.size) (v9.heap.size) wo269 (xa51) (S) (xc51)) := by rw [hwo269]; exact (L253.out.al (by omega) (.cells #[.bool false, .slice xa54 S.length xc54, .slice ya54 DX.length yc54] 25))
  have L280 : Hid (MidC (wo115.drew.heap.size) (v9.heap.size) wo269 (ya51) (DX) (yc51)) := by rw [hwo269]; exact (L254.out.al (by omega) (.cells #[.bool false, .slice xa54 S.length xc54, .slice ya54 DX.length yc54] 25))
  have L281 : Hid (MidC (wo225.heap.size) (v12.heap.size) wo269 (xa54) (S) (xc54)) := by rw [hwo269]; exact (L260.out.al (by omega) (.cells #[.bool false, .slice xa54 S.length xc54, .slice ya54 DX.length yc54] 25))
  have L282 : Hid (MidC (wo225.heap.size) (v12.heap.size) wo269 (ya54) (DX) (yc54)) := by rw [hwo269]; exact (L261.out.al (by omega) (.cells #[.bool false, .slice xa54 S.length xc54, .slice ya54 DX.length yc54] 25))
  have hb283 : Hid (Below w.heap.size w wo269) := by rw [hwo269]; exact (hb259.out.alloc (by omega) (.cells #[.bool false, .slice xa54 S.length xc54, .slice ya54 DX.length yc54] 25))
  have zwo269 : w.heap.size ≤ wo269.heap.size := hb283.out.size
  clear hwo269 n262 l263 l264 l265 l266 l267 l268 hb259 B244 B245 B246 B247 B248 L251 L252 L253 L254 L260 L261
  refine (alike_eq false xa51 xc51 S ya51 yc51 DX xa54 xc54 S ya54 yc54 DX rfl rfl (by omega) (by omega) _ (L279.out.is (by omega)) (L280.out.is (by omega)).1 (L281.out.is (by omega)) (L282.out.is (by omega)).1).mono ?_
  rintro e v13 ⟨rfl, hB⟩
  have z284 : wo269.heap.size ≤ v13.heap.size := hB.size
  have B285 : Hid (Abx v13 (w.heap.size) (.bool false) (.slice (some ⟨b1, o1, none⟩) sz1.length sc1) (.slice da1 dz1.length dc1)) := B271.out.go hB
  have B286 : Hid (Abx v13 (w.heap.size + 1) (.bool false) (.slice (some ⟨b2, o2, none⟩) sz2.length sc2) (.slice da2 dz2.length dc2)) := B272.out.go hB
  have B287 : Hid (Abx v13 (w.heap.size + 1 + 1) (.bool false) (.slice (some ⟨b3, o3, none⟩) sz3.length sc3) (.slice da3 dz3.length dc3)) := B273.out.go hB
  have B288 : Hid (Abx v13 (v8.heap.size) (.bool false) (.slice xa0 sz2.length xc0) (.slice ya0 D0.length yc0)) := B274.out.go hB
  have B289 : Hid (Abx v13 (v9.heap.size) (.bool false) (.slice xa51 S.length xc51) (.slice ya51 DX.length yc51)) := B275.out.go hB
  have B290 : Hid (Abx v13 (v12.heap.size) (.bool false) (.slice xa54 S.length xc54) (.slice ya54 DX.length yc54)) := B276.out.go hB
  have L291 : Hid (MidC (v7.heap.size) (v8.heap.size) v13 (xa0) (sz2) (xc0)) := L277.out.go (by omega) hB
  have L292 : Hid (MidC (v7.heap.size) (v8.heap.size) v13 (ya0) (D0) (yc0)) := L278.out.go (by omega) hB
  have L293 : Hid (MidC (wo115.drew.heap.size) (v9.heap.size) v13 (xa51) (S) (xc51)) := L279.out.go (by omega) hB
  have L294 : Hid (MidC (wo115.drew.heap.size) (v9.heap.size) v13 (ya51) (DX) (yc51)) := L280.out.go (by omega) hB
  have L295 : Hid (MidC (wo225.heap.size) (v12.heap.size) v13 (xa54) (S) (xc54)) := L281.out.go (by omega) hB
  have L296 : Hid (MidC (wo225.heap.size) (v12.heap.size) v13 (ya54) (DX) (yc54)) := L282.out.go (by omega) hB
  have hb297 : Hid (Below w.heap.size w v13) := hb283.out.trans (hB.mono hb283.out.size)
  clear hB hb283 B271 B272 B273 B274 B275 B276 L277 L278 L279 L280 L281 L282
  clear L293 L294 L295 L296 B289 B290
  go_wp2_with fail
  have sx21 : v13.cell? ⟨b2, o2 + 1, none⟩ = some (.int .i64 n2) := (hb297.out.cell (p := ⟨b2, o2 + 1, none⟩) HC2.out.1).trans HC2.out.2.2
  have sx10 : v13.cell? ⟨b1, o1, none⟩ = some (.int .i64 m1) := (hb297.out.cell (p := ⟨b1, o1, none⟩) HC1.out.1).trans HC1.out.2.1
  have hb0b : Below v13.heap.size v13 v13.drew := (Below.refl _ v13).drew
  refine anyC_begin (fun w' => w'.cell? ⟨w.heap.size, 0, none⟩ = some (.bool false) ∧ w'.cell? ⟨w.heap.size, 1, none⟩ = some (.slice (some ⟨b1, o1, none⟩) sz1.length sc1) ∧ w'.cell? ⟨w.heap.size, 2, none⟩ = some (.slice da1 dz1.length dc1) ∧ w'.cell? ⟨w.heap.size + 1, 0, none⟩ = some (.bool false) ∧ w'.cell? ⟨w.heap.size + 1, 1, none⟩ = some (.slice (some ⟨b2, o2, none⟩) sz2.length sc2) ∧ w'.cell? ⟨w.heap.size + 1, 2, none⟩ = some (.slice da2 dz2.length dc2) ∧ w'.cell? ⟨b2, o2 + 1, none⟩ = some (.int .i64 n2) ∧ w'.cell? ⟨b1, o1, none⟩ = some (.int .i64 m1)) 9 #[false, false, false, false, false, false, false, false, false] (by kernel_rfl) rfl rfl ?_
  refine anyC_put 0 131 ?rv560 #[true, false, false, false, false, false, false, false, false] rfl rfl rfl (by kernel_rfl) (by kernel_rfl) (by kernel_rfl) (fun _ _ _ h => h) ?ry560 (⟨(B285.out.go hb0b).c0, (B285.out.go hb0b).c1, (B285.out.go hb0b).c2, (B286.out.go hb0b).c0, (B286.out.go hb0b).c1, (B286.out.go hb0b).c2, cell_to sx21 hb0b, cell_to sx10 hb0b⟩) ?rm560
  case ry560 => first | exact Or.inl ⟨by rfl, by intro w'; go_simp; first | done | rfl⟩
  case rm560 =>
  simp only [Act.put, List.setIfInBounds_toArray, List.set_cons_zero, List.set_cons_succ]
  refine anyC_take 1 132 ?rv561 #[true, true, false, false, false, false, false, false, false] rfl rfl rfl (by kernel_rfl) (by kernel_rfl) (by kernel_rfl) (fun _ _ _ h => h) ?ry561 (⟨(B285.out.go hb0b).c0, (B285.out.go hb0b).c1, (B285.out.go hb0b).c2, (B286.out.go hb0b).c0, (B286.out.go hb0b).c1, (B286.out.go hb0b).c2, cell_to sx21 hb0b, cell_to sx10 hb0b⟩) ?rm561
  case ry561 => first | exact Or.inl ⟨by rfl, by intro w' hw'; (try dsimp only at hw'); go_simp; first | done | rfl⟩
  case rm561 =>
  simp only [Act.put, List.setIfInBounds_toArray, List.set_cons_zero, List.set_cons_succ]
  refine anyC_put 2 133 ?rv562 #[true, true, true, false, false, false, false, false, false] rfl rfl rfl (by kernel_rfl) (by kernel_rfl) (by kernel_rfl) (fun _ _ _ h => h) ?ry562 (⟨(B285.out.go hb0b).c0, (B285.out.go hb0b).c1, (B285.out.go hb0b).c2, (B286.out.go hb0b).c0, (B286.out.go hb0b).c1, (B286.out.go hb0b).c2, cell_to sx21 hb0b, cell_to sx10 hb0b⟩) ?rm562
  case ry562 => first | exact Or.inl ⟨by rfl, by intro w'; go_simp; first | done | rfl⟩
  case rm562 =>
  simp only [Act.put, List.setIfInBounds_toArray, List.set_cons_zero, List.set_cons_succ]
  refine anyC_take 3 134 ?rv563 #[true, true, true, true, false, false, false, false, false] rfl rfl rfl (by kernel_rfl) (by kernel_rfl) (by kernel_rfl) (fun _ _ _ h => h) ?ry563 (⟨(B285.out.go hb0b).c0, (B285.out.go hb0b).c1, (B285.out.go hb0b).c2, (B286.out.go hb0b).c0, (B286.out.go hb0b).c1, (B286.out.go hb0b).c2, cell_to sx21 hb0b, cell_to sx10 hb0b⟩) ?rm563
  case ry563 => first | exact Or.inl ⟨by rfl, by intro w' hw'; (try dsimp only at hw'); go_simp; first | done | rfl⟩
  case rm563 =>
  simp only [Act.put, List.setIfInBounds_toArray, List.set_cons_zero, List.set_cons_succ]
  refine anyC_put 4 135 ?rv564 #[true, true, true, true, true, false, false, false, false] rfl rfl rfl (by kernel_rfl) (by kernel_rfl) (by kernel_rfl) (fun _ _ _ h => h) ?ry564 (⟨(B285.out.go hb0b).c0, (B285.out.go hb0b).c1, (B285.out.go hb0b).c2, (B286.out.go hb0b).c0, (B286.out.go hb0b).c1, (B286.out.go hb0b).c2, cell_to sx21 hb0b, cell_to sx10 hb0b⟩) ?rm564
  case ry564 => first | exact Or.inl ⟨by rfl, by intro w'; go_simp; first | done | rfl⟩
  case rm564 =>
  simp only [Act.put, List.setIfInBounds_toArray, List.set_cons_zero, List.set_cons_succ]
  refine anyC_take 5 136 ?rv565 #[true, true, true, true, true, true, false, false, false] rfl rfl rfl (by kernel_rfl) (by kernel_rfl) (by kernel_rfl) (fun _ _ _ h => h) ?ry565 (⟨(B285.out.go hb0b).c0, (B285.out.go hb0b).c1, (B285.out.go hb0b).c2, (B286.out.go hb0b).c0, (B286.out.go hb0b).c1, (B286.out.go hb0b).c2, cell_to sx21 hb0b, cell_to sx10 hb0b⟩) ?rm565
  case ry565 => first | exact Or.inl ⟨by rfl, by intro w' hw'; (try dsimp only at hw'); go_simp; first | done | rfl⟩
  case rm565 =>
  simp only [Act.put, List.setIfInBounds_toArray, List.set_cons_zero, List.set_cons_succ]
  refine anyC_put 6 137 ?rv566 #[true, true, true, true, true, true, true, false, false] rfl rfl rfl (by kernel_rfl) (by kernel_rfl) (by kernel_rfl) (fun _ _ _ h => h) ?ry566 (⟨(B285.out.go hb0b).c0, (B285.out.go hb0b).c1, (B285.out.go hb0b).c2, (B286.out.go hb0b).c0, (B286.out.go hb0b).c1, (B286.out.go hb0b).c2, cell_to sx21 hb0b, cell_to sx10 hb0b⟩) ?rm566
  case ry566 => first | exact Or.inl ⟨by rfl, by intro w'; go_simp; first | done | rfl⟩
  case rm566 =>
  simp only [Act.put, List.setIfInBounds_toArray, List.set_cons_zero, List.set_cons_succ]
  refine anyC_take 7 138 ?rv567 #[true, true, true, true, true, true, true, true, false] rfl rfl rfl (by kernel_rfl) (by kernel_rfl) (by kernel_rfl) (fun _ _ _ h => h) ?ry567 (⟨(B285.out.go hb0b).c0, (B285.out.go hb0b).c1, (B285.out.go hb0b).c2, (B286.out.go hb0b).c0, (B286.out.go hb0b).c1, (B286.out.go hb0b).c2, cell_to sx21 hb0b, cell_to sx10 hb0b⟩) ?rm567
  case ry567 => first | exact Or.inl ⟨by rfl, by intro w' hw'; (try dsimp only at hw'); go_simp; first | done | rfl⟩
  case rm567 =>
  simp only [Act.put, List.setIfInBounds_toArray, List.set_cons_zero, List.set_cons_succ]
  refine anyC_put 8 139 ?rv568 #[true, true, true, true, true, true, true, true, true] rfl rfl rfl (by kernel_rfl) (by kernel_rfl) (by kernel_rfl) (fun _ _ _ h => h) ?ry568 (⟨(B285.out.go hb0b).c0, (B285.out.go hb0b).c1, (B285.out.go hb0b).c2, (B286.out.go hb0b).c0, (B286.out.go hb0b).c1, (B286.out.go hb0b).c2, cell_to sx21 hb0b, cell_to sx10 hb0b⟩) ?rm568
  case ry568 => first | exact Or.inl ⟨by rfl, by intro w'; go_simp; first | done | rfl⟩
  case rm568 =>
  simp only [Act.put, List.setIfInBounds_toArray, List.set_cons_zero, List.set_cons_succ]
  refine anyC_done (by kernel_rfl) ?_
  have hB := hb0b
  have z298 : v13.heap.size ≤ v13.drew.heap.size := hB.size
  have B299 : Hid (Abx v13.drew (w.heap.size) (.bool false) (.slice (some ⟨b1, o1, none⟩) sz1.length sc1) (.slice da1 dz1.length dc1)) := B285.out.go hB
  have B300 : Hid (Abx v13.drew (w.heap.size + 1) (.bool false) (.slice (some ⟨b2, o2, none⟩) sz2.length sc2) (.slice da2 dz2.length dc2)) := B286.out.go hB
  have B301 : Hid (Abx v13.drew (w.heap.size + 1 + 1) (.bool false) (.slice (some ⟨b3, o3, none⟩) sz3.length sc3) (.slice da3 dz3.length dc3)) := B287.out.go hB
  have B302 : Hid (Abx v13.drew (v8.heap.size) (.bool false) (.slice xa0 sz2.length xc0) (.slice ya0 D0.length yc0)) := B288.out.go hB
  have L303 : Hid (MidC (v7.heap.size) (v8.heap.size) v13.drew (xa0) (sz2) (xc0)) := L291.out.go (by omega) hB
  have L304 : Hid (MidC (v7.heap.size) (v8.heap.size) v13.drew (ya0) (D0) (yc0)) := L292.out.go (by omega) hB
  have hb305 : Hid (Below w.heap.size w v13.drew) := hb297.out.trans (hB.mono hb297.out.size)
  clear hB hb297 B285 B286 B287 B288 L291 L292
  have l306 := (B302.out).c0
  have l307 := (B302.out).c1
  have l308 := (B302.out).c2
  have l309 := (B299.out).c0
  have l310 := (B299.out).c1
  have l311 := (B299.out).c2
  go_wp2_with fail
  clear l306 l307 l308 l309 l310 l311
  refine (niw_ok 1 3 false xa0 xc0 sz2 sz2.length rfl ya0 yc0 D0 D0.length rfl false (some ⟨b1, o1, none⟩) sc1 sz1 sz1.length rfl da1 dc1 dz1 dz1.length rfl _ (by unfold In64; decide) (by unfold In64; decide) (by omega) (by omega) (L303.out.is (by omega)) (L304.out.is (by omega)).1 HQ2.out x11 x12 ((HI1.out.1.below hb305.out).mono hb305.out.size) ((HI1.out.2.1.1.below hb305.out).mono hb305.out.size) HI1.out.2.2.2 S' DX' HNi HL1.out).mono ?_
  rintro e v14 ⟨xa61, xc61, ya61, yc61, rfl, hX61, hY61, hB⟩
  have z312 : v13.drew.heap.size ≤ v14.heap.size := hB.size
  have B313 : Hid (Abx v14 (w.heap.size) (.bool false) (.slice (some ⟨b1, o1, none⟩) sz1.length sc1) (.slice da1 dz1.length dc1)) := B299.out.go hB
  have B314 : Hid (Abx v14 (w.heap.size + 1) (.bool false) (.slice (some ⟨b2, o2, none⟩) sz2.length sc2) (.slice da2 dz2.length dc2)) := B300.out.go hB
  have B315 : Hid (Abx v14 (w.heap.size + 1 + 1) (.bool false) (.slice (some ⟨b3, o3, none⟩) sz3.length sc3) (.slice da3 dz3.length dc3)) := B301.out.go hB
  have B316 : Hid (Abx v14 (v8.heap.size) (.bool false) (.slice xa0 sz2.length xc0) (.slice ya0 D0.length yc0)) := B302.out.go hB
  have L317 : Hid (MidC (v7.heap.size) (v8.heap.size) v14 (xa0) (sz2) (xc0)) := L303.out.go (by omega) hB
  have L318 : Hid (MidC (v7.heap.size) (v8.heap.size) v14 (ya0) (D0) (yc0)) := L304.out.go (by omega) hB
  have hb319 : Hid (Below w.heap.size w v14) := hb305.out.trans (hB.mono hb305.out.size)
  have L320 : Hid (MidC (v13.drew.heap.size) (v14.heap.size) v14 (xa61) (S') (xc61)) := hX61.midc
  have L321 : Hid (MidC (v13.drew.heap.size) (v14.heap.size) v14 (ya61) (DX') (yc61)) := hY61.midc
  clear hB hb305 B299 B300 B301 B302 L303 L304 hX61 hY61
  have n322 := Abx.new v14 (.bool false) (.slice xa61 S'.length xc61) (.slice ya61 DX'.length yc61)
  have l323 := ((B314.out.al (.cells #[.bool false, .slice xa61 S'.length xc61, .slice ya61 DX'.length yc61] 25))).c0
  have l324 := ((B314.out.al (.cells #[.bool false, .slice xa61 S'.length xc61, .slice ya61 DX'.length yc61] 25))).c1
  have l325 := ((B314.out.al (.cells #[.bool false, .slice xa61 S'.length xc61, .slice ya61 DX'.length yc61] 25))).c2
  have l326 := ((B313.out.al (.cells #[.bool false, .slice xa61 S'.length xc61, .slice ya61 DX'.length yc61] 25))).c0
  have l327 := ((B313.out.al (.cells #[.bool false, .slice xa61 S'.length xc61, .slice ya61 DX'.length yc61] 25))).c1
  have l328 := ((B313.out.al (.cells #[.bool false, .slice xa61 S'.length xc61, .slice ya61 DX'.length yc61] 25))).c2
  go_wp2_with fail
  obtain ⟨wo329, hwo329⟩ : ∃ wo329, wo329 = (v14.alloc (.cells #[.bool false, .slice xa61 S'.length xc61, .slice ya61 DX'.length yc61] 25)) := ⟨_, rfl⟩
  rw [← hwo329]
  have z330 : v14.heap.size + 1 ≤ wo329.heap.size := by rw [hwo329]; simp only [World.size_alloc]; omega
  have B331 : Hid (Abx wo329 (w.heap.size) (.bool false) (.slice (some ⟨b1, o1, none⟩) sz1.length sc1) (.slice da1 dz1.length dc1)) := by rw [hwo329]; exact (B313.out.al (.cells #[.bool false, .slice xa61 S'.length xc61, .slice ya61 DX'.length yc61] 25))
  have B332 : Hid (Abx wo329 (w.heap.size + 1) (.bool false) (.slice (some ⟨b2, o2, none⟩) sz2.length sc2) (.slice da2 dz2.length dc2)) := by rw [hwo329]; exact (B314.out.al (.cells #[.bool false, .slice xa61 S'.length xc61, .slice ya61 DX'.length yc61] 25))
  have B333 : Hid (Abx wo329 (w.heap.size + 1 + 1) (.bool false) (.slice (some ⟨b3, o3, none⟩) sz3.length sc3) (.slice da3 dz3.length dc3)) := by rw [hwo329]; exact (B315.out.al (.cells #[.bool false, .slice xa61 S'.length xc61, .slice ya61 DX'.length yc61] 25))
  have B334 : Hid (Abx wo329 (v8.heap.size) (.bool false) (.slice xa0 sz2.length xc0) (.slice ya0 D0.length yc0)) := by rw [hwo329]; exact (B316.out.al (.cells #[.bool false, .slice xa61 S'.length xc61, .slice ya61 DX'.length yc61] 25))
  have B335 : Hid (Abx wo329 (v14.heap.size) (.bool false) (.slice xa61 S'.length xc61) (.slice ya61 DX'.length yc61)) := by rw [hwo329]; exact n322
  have L336 : Hid (MidC (v7.heap.size) (v8.heap.size) wo329 (xa0) (sz2) (xc0)) := by rw [hwo329]; exact (L317.out.al (by omega) (.cells #[.bool false, .slice xa61 S'.length xc61, .slice ya61 DX'.length yc61] 25))
  have L337 : Hid (MidC (v7.heap.size) (v8.heap.size) wo329 (ya0) (D0) (yc0)) := by rw [hwo329]; exact (L318.out.al (by omega) (.cells #[.bool false, .slice xa61 S'.length xc61, .slice ya61 DX'.length yc61] 25))
  have L338 : Hid (MidC (v13.drew.heap.size) (v14.heap.size) wo329 (xa61) (S') (xc61)) := by rw [hwo329]; exact (L320.out.al (by omega) (.cells #[.bool false, .slice xa61 S'.length xc61, .slice ya61 DX'.length yc61] 25))
  have L339 : Hid (MidC (v13.drew.heap.size) (v14.heap.size) wo329 (ya61) (DX') (yc61)) := by rw [hwo329]; exact (L321.out.al (by omega) (.cells #[.bool false, .slice xa61 S'.length xc61, .slice ya61 DX'.length yc61] 25))
  have hb340 : Hid (Below w.heap.size w wo329) := by rw [hwo329]; exact (hb319.out.alloc (by omega) (.cells #[.bool false, .slice xa61 S'.length xc61, .slice ya61 DX'.length yc61] 25))
  have zwo329 : w.heap.size ≤ wo329.heap.size := hb340.out.size
  clear hwo329 n322 l323 l324 l325 l326 l327 l328 hb319 B313 B314 B315 B316 L317 L318 L320 L321
  refine (niw_ok 1 3 false (some ⟨b2, o2, none⟩) sc2 sz2 sz2.length rfl da2 dc2 dz2 dz2.length rfl false (some ⟨b1, o1, none⟩) sc1 sz1 sz1.length rfl da1 dc1 dz1 dz1.length rfl _ (by unfold In64; decide) (by unfold In64; decide) x21 x22 ((HI2.out.1.below hb340.out).mono hb340.out.size) ((HI2.out.2.1.1.below hb340.out).mono hb340.out.size) HI2.out.2.2.2 x11 x12 ((HI1.out.1.below hb340.out).mono hb340.out.size) ((HI1.out.2.1.1.below hb340.out).mono hb340.out.size) HI1.out.2.2.2 S' DP' HNi HL2.out).mono ?_
  rintro e v15 ⟨xa62, xc62, ya62, yc62, rfl, hX62, hY62, hB⟩
  have z341 : wo329.heap.size ≤ v15.heap.size := hB.size
  have B342 : Hid (Abx v15 (w.heap.size) (.bool false) (.slice (some ⟨b1, o1, none⟩) sz1.length sc1) (.slice da1 dz1.length dc1)) := B331.out.go hB
  have B343 : Hid (Abx v15 (w.heap.size + 1) (.bool false) (.slice (some ⟨b2, o2, none⟩) sz2.length sc2) (.slice da2 dz2.length dc2)) := B332.out.go hB
  have B344 : Hid (Abx v15 (w.heap.size + 1 + 1) (.bool false) (.slice (some ⟨b3, o3, none⟩) sz3.length sc3) (.slice da3 dz3.length dc3)) := B333.out.go hB
  have B345 : Hid (Abx v15 (v8.heap.size) (.bool false) (.slice xa0 sz2.length xc0) (.slice ya0 D0.length yc0)) := B334.out.go hB
  have B346 : Hid (Abx v15 (v14.heap.size) (.bool false) (.slice xa61 S'.length xc61) (.slice ya61 DX'.length yc61)) := B335.out.go hB
  have L347 : Hid (MidC (v7.heap.size) (v8.heap.size) v15 (xa0) (sz2) (xc0)) := L336.out.go (by omega) hB
  have L348 : Hid (MidC (v7.heap.size) (v8.heap.size) v15 (ya0) (D0) (yc0)) := L337.out.go (by omega) hB
  have L349 : Hid (MidC (v13.drew.heap.size) (v14.heap.size) v15 (xa61) (S') (xc61)) := L338.out.go (by omega) hB
  have L350 : Hid (MidC (v13.drew.heap.size) (v14.heap.size) v15 (ya61) (DX') (yc61)) := L339.out.go (by omega) hB
  have hb351 : Hid (Below w.heap.size w v15) := hb340.out.trans (hB.mono hb340.out.size)
  have L352 : Hid (MidC (wo329.heap.size) (v15.heap.size) v15 (xa62) (S') (xc62)) := hX62.midc
  have L353 : Hid (MidC (wo329.heap.size) (v15.heap.size) v15 (ya62) (DP') (yc62)) := hY62.midc
  clear hB hb340 B331 B332 B333 B334 B335 L336 L337 L338 L339 hX62 hY62
  have n354 := Abx.new v15 (.bool false) (.slice xa62 S'.length xc62) (.slice ya62 DP'.length yc62)
  have l355 := ((B344.out.al (.cells #[.bool false, .slice xa62 S'.length xc62, .slice ya62 DP'.length yc62] 25))).c0
  have l356 := ((B344.out.al (.cells #[.bool false, .slice xa62 S'.length xc62, .slice ya62 DP'.length yc62] 25))).c1
  have l357 := ((B344.out.al (.cells #[.bool false, .slice xa62 S'.length xc62, .slice ya62 DP'.length yc62] 25))).c2
  have l358 := ((B342.out.al (.cells #[.bool false, .slice xa62 S'.length xc62, .slice ya62 DP'.length yc62] 25))).c0
  have l359 := ((B342.out.al (.cells #[.bool false, .slice xa62 S'.length xc62, .slice ya62 DP'.length yc62] 25))).c1
  have l360 := ((B342.out.al (.cells #[.bool false, .slice xa62 S'.length xc62, .slice ya62 DP'.length yc62] 25))).c2
  go_wp2_with fail
  obtain ⟨wo361, hwo361⟩ : ∃ wo361, wo361 = (v15.alloc (.cells #[.bool false, .slice xa62 S'.length xc62, .slice ya62 DP'.length yc62] 25)) := ⟨_, rfl⟩
  rw [← hwo361]
  have z362 : v15.heap.size + 1 ≤ wo361.heap.size := by rw [hwo361]; simp only [World.size_alloc]; omega
  have B363 : Hid (Abx wo361 (w.heap.size) (.bool false) (.slice (some ⟨b1, o1, none⟩) sz1.length sc1) (.slice da1 dz1.length dc1)) := by rw [hwo361]; exact (B342.out.al (.cells #[.bool false, .slice xa62 S'.length xc62, .slice ya62 DP'.length yc62] 25))
  have B364 : Hid (Abx wo361 (w.heap.size + 1) (.bool false) (.slice (some ⟨b2, o2, none⟩) sz2.length sc2) (.slice da2 dz2.length dc2)) := by rw [hwo361]; exact (B343.out.al (.cells #[.bool false, .slice xa62 S'.length xc62, .slice ya62 DP'.length yc62] 25))
  have B365 : Hid (Abx wo361 (w.heap.size + 1 + 1) (.bool false) (.slice (some ⟨b3, o3, none⟩) sz3.length sc3) (.slice da3 dz3.length dc3)) := by rw [hwo361]; exact (B344.out.al (.cells #[.bool false, .slice xa62 S'.length xc62, .slice ya62 DP'.length yc62] 25))
  have B366 : Hid (Abx wo361 (v8.heap.size) (.bool false) (.slice xa0 sz2.length xc0) (.slice ya0 D0.length yc0)) := by rw [hwo361]; exact (B345.out.al (.cells #[.bool false, .slice xa62 S'.length xc62, .slice ya62 DP'.length yc62] 25))
  have B367 : Hid (Abx wo361 (v14.heap.size) (.bool false) (.slice xa61 S'.length xc61) (.slice ya61 DX'.length yc61)) := by rw [hwo361]; exact (B346.out.al (.cells #[.bool false, .slice xa62 S'.length xc62, .slice ya62 DP'.length yc62] 25))
  have B368 : Hid (Abx wo361 (v15.heap.size) (.bool false) (.slice xa62 S'.length xc62) (.slice ya62 DP'.length yc62)) := by rw [hwo361]; exact n354
  have L369 : Hid (MidC (v7.heap.size) (v8.heap.size) wo361 (xa0) (sz2) (xc0)) := by rw [hwo361]; exact (L347.out.al (by omega) (.cells #[.bool false, .slice xa62 S'.length xc62, .slice ya62 DP'.length yc62] 25))
  have L370 : Hid (MidC (v7.heap.size) (v8.heap.size) wo361 (ya0) (D0) (yc0)) := by rw [hwo361]; exact (L348.out.al (by omega) (.cells #[.bool false, .slice xa62 S'.length xc62, .slice ya62 DP'.length yc62] 25))
  have L371 : Hid (MidC (v13.drew.heap.size) (v14.heap.size) wo361 (xa61) (S') (xc61)) := by rw [hwo361]; exact (L349.out.al (by omega) (.cells #[.bool false, .slice xa62 S'.length xc62, .slice ya62 DP'.length yc62] 25))
  have L372 : Hid (MidC (v13.drew.heap.size) (v14.heap.size) wo361 (ya61) (DX') (yc61)) := by rw [hwo361]; exact (L350.out.al (by omega) (.cells #[.bool false, .slice xa62 S'.length xc62, .slice ya62 DP'.length yc62] 25))
  have L373 : Hid (MidC (wo329.heap.size) (v15.heap.size) wo361 (xa62) (S') (xc62)) := by rw [hwo361]; exact (L352.out.al (by omega) (.cells #[.bool false, .slice xa62 S'.length xc62, .slice ya62 DP'.length yc62] 25))
  have L374 : Hid (MidC (wo329.heap.size) (v15.heap.size) wo361 (ya62) (DP') (yc62)) := by rw [hwo361]; exact (L353.out.al (by omega) (.cells #[.bool false, .slice xa62 S'.length xc62, .slice ya62 DP'.length yc62] 25))
  have hb375 : Hid (Below w.heap.size w wo361) := by rw [hwo361]; exact (hb351.out.alloc (by omega) (.cells #[.bool false, .slice xa62 S'.length xc62, .slice ya62 DP'.length yc62] 25))
  have zwo361 : w.heap.size ≤ wo361.heap.size := hb375.out.size
  clear hwo361 n354 l355 l356 l357 l358 l359 l360 hb351 B342 B343 B344 B345 B346 L347 L348 L349 L350 L352 L353
  refine (niw_ok 1 3 false (some ⟨b3, o3, none⟩) sc3 sz3 sz3.length rfl da3 dc3 dz3 dz3.length rfl false (some ⟨b1, o1, none⟩) sc1 sz1 sz1.length rfl da1 dc1 dz1 dz1.length rfl _ (by unfold In64; decide) (by unfold In64; decide) x31 x32 ((HI3.out.1.below hb375.out).mono hb375.out.size) ((HI3.out.2.1.1.below hb375.out).mono hb375.out.size) HI3.out.2.2.2 x11 x12 ((HI1.out.1.below hb375.out).mono hb375.out.size) ((HI1.out.2.1.1.below hb375.out).mono hb375.out.size) HI1.out.2.2.2 S' DQ' HNi HL3.out).mono ?_
  rintro e v16 ⟨xa63, xc63, ya63, yc63, rfl, hX63, hY63, hB⟩
  have z376 : wo361.heap.size ≤ v16.heap.size := hB.size
  have B377 : Hid (Abx v16 (w.heap.size) (.bool false) (.slice (some ⟨b1, o1, none⟩) sz1.length sc1) (.slice da1 dz1.length dc1)) := B363.out.go hB
  have B378 : Hid (Abx v16 (w.heap.size + 1) (.bool false) (.slice (some ⟨b2, o2, none⟩) sz2.length sc2) (.slice da2 dz2.length dc2)) := B364.out.go hB
  have B379 : Hid (Abx v16 (w.heap.size + 1 + 1) (.bool false) (.slice (some ⟨b3, o3, none⟩) sz3.length sc3) (.slice da3 dz3.length dc3)) := B365.out.go hB
  have B380 : Hid (Abx v16 (v8.heap.size) (.bool false) (.slice xa0 sz2.length xc0) (.slice ya0 D0.length yc0)) := B366.out.go hB
  have B381 : Hid (Abx v16 (v14.heap.size) (.bool false) (.slice xa61 S'.length xc61) (.slice ya61 DX'.length yc61)) := B367.out.go hB
  have B382 : Hid (Abx v16 (v15.heap.size) (.bool false) (.slice xa62 S'.length xc62) (.slice ya62 DP'.length yc62)) := B368.out.go hB
  have L383 : Hid (MidC (v7.heap.size) (v8.heap.size) v16 (xa0) (sz2) (xc0)) := L369.out.go (by omega) hB
  have L384 : Hid (MidC (v7.heap.size) (v8.heap.size) v16 (ya0) (D0) (yc0)) := L370.out.go (by omega) hB
  have L385 : Hid (MidC (v13.drew.heap.size) (v14.heap.size) v16 (xa61) (S') (xc61)) := L371.out.go (by omega) hB
  have L386 : Hid (MidC (v13.drew.heap.size) (v14.heap.size) v16 (ya61) (DX') (yc61)) := L372.out.go (by omega) hB
  have L387 : Hid (MidC (wo329.heap.size) (v15.heap.size) v16 (xa62) (S') (xc62)) := L373.out.go (by omega) hB
  have L388 : Hid (MidC (wo329.heap.size) (v15.heap.size) v16 (ya62) (DP') (yc62)) := L374.out.go (by omega) hB
  have hb389 : Hid (Below w.heap.size w v16) := hb375.out.trans (hB.mono hb375.out.size)
  have L390 : Hid (MidC (wo361.heap.size) (v16.heap.size) v16 (xa63) (S') (xc63)) := hX63.midc
  have L391 : Hid (MidC (wo361.heap.size) (v16.heap.size) v16 (ya63) (DQ') (yc63)) := hY63.midc
  clear hB hb375 B363 B364 B365 B366 B367 B368 L369 L370 L371 L372 L373 L374 hX63 hY63
  have n392 := Abx.new v16 (.bool false) (.slice xa63 S'.length xc63) (.slice ya63 DQ'.length yc63)
  have l393 := ((B382.out.al (.cells #[.bool false, .slice xa63 S'.length xc63, .slice ya63 DQ'.length yc63] 25))).c0
  have l394 := ((B382.out.al (.cells #[.bool false, .slice xa63 S'.length xc63, .slice ya63 DQ'.length yc63] 25))).c1
  have l395 := ((B382.out.al (.cells #[.bool false, .slice xa63 S'.length xc63, .slice ya63 DQ'.length yc63] 25))).c2
  have l396 := (n392).c0
  have l397 := (n392).c1
  have l398 := (n392).c2
  go_wp2_with fail
  obtain ⟨wo399, hwo399⟩ : ∃ wo399, wo399 = (v16.alloc (.cells #[.bool false, .slice xa63 S'.length xc63, .slice ya63 DQ'.length yc63] 25)) := ⟨_, rfl⟩
  rw [← hwo399]
  have z400 : v16.heap.size + 1 ≤ wo399.heap.size := by rw [hwo399]; simp only [World.size_alloc]; omega
  have B401 : Hid (Abx wo399 (w.heap.size) (.bool false) (.slice (some ⟨b1, o1, none⟩) sz1.length sc1) (.slice da1 dz1.length dc1)) := by rw [hwo399]; exact (B377.out.al (.cells #[.bool false, .slice xa63 S'.length xc63, .slice ya63 DQ'.length yc63] 25))
  have B402 : Hid (Abx wo399 (w.heap.size + 1) (.bool false) (.slice (some ⟨b2, o2, none⟩) sz2.length sc2) (.slice da2 dz2.length dc2)) := by rw [hwo399]; exact (B378.out.al (.cells #[.bool false, .slice xa63 S'.length xc63, .slice ya63 DQ'.length yc63] 25))
  have B403 : Hid (Abx wo399 (w.heap.size + 1 + 1) (.bool false) (.slice (some ⟨b3, o3, none⟩) sz3.length sc3) (.slice da3 dz3.length dc3)) := by rw [hwo399]; exact (B379.out.al (.cells #[.bool false, .slice xa63 S'.length xc63, .slice ya63 DQ'.length yc63] 25))
  have B404 : Hid (Abx wo399 (v8.heap.size) (.bool false) (.slice xa0 sz2.length xc0) (.slice ya0 D0.length yc0)) := by rw [hwo399]; exact (B380.out.al (.cells #[.bool false, .slice xa63 S'.length xc63, .slice ya63 DQ'.length yc63] 25))
  have B405 : Hid (Abx wo399 (v14.heap.size) (.bool false) (.slice xa61 S'.length xc61) (.slice ya61 DX'.length yc61)) := by rw [hwo399]; exact (B381.out.al (.cells #[.bool false, .slice xa63 S'.length xc63, .slice ya63 DQ'.length yc63] 25))
  have B406 : Hid (Abx wo399 (v15.heap.size) (.bool false) (.slice xa62 S'.length xc62) (.slice ya62 DP'.length yc62)) := by rw [hwo399]; exact (B382.out.al (.cells #[.bool false, .slice xa63 S'.length xc63, .slice ya63 DQ'.length yc63] 25))
  have B407 : Hid (Abx wo399 (v16.heap.size) (.bool false) (.slice xa63 S'.length xc63) (.slice ya63 DQ'.length yc63)) := by rw [hwo399]; exact n392
  have L408 : Hid (MidC (v7.heap.size) (v8.heap.size) wo399 (xa0) (sz2) (xc0)) := by rw [hwo399]; exact (L383.out.al (by omega) (.cells #[.bool false, .slice xa63 S'.length xc63, .slice ya63 DQ'.length yc63] 25))
  have L409 : Hid (MidC (v7.heap.size) (v8.heap.size) wo399 (ya0) (D0) (yc0)) := by rw [hwo399]; exact (L384.out.al (by omega) (.cells #[.bool false, .slice xa63 S'.length xc63, .slice ya63 DQ'.length yc63] 25))
  have L410 : Hid (MidC (v13.drew.heap.size) (v14.heap.size) wo399 (xa61) (S') (xc61)) := by rw [hwo399]; exact (L385.out.al (by omega) (.cells #[.bool false, .slice xa63 S'.length xc63, .slice ya63 DQ'.length yc63] 25))
  have L411 : Hid (MidC (v13.drew.heap.size) (v14.heap.size) wo399 (ya61) (DX') (yc61)) := by rw [hwo399]; exact (L386.out.al (by omega) (.cells #[.bool false, .slice xa63 S'.length xc63, .slice ya63 DQ'.length yc63] 25))
  have L412 : Hid (MidC (wo329.heap.size) (v15.heap.size) wo399 (xa62) (S') (xc62)) := by rw [hwo399]; exact (L387.out.al (by omega) (.cells #[.bool false, .slice xa63 S'.length xc63, .slice ya63 DQ'.length yc63] 25))
  have L413 : Hid (MidC (wo329.heap.size) (v15.heap.size) wo399 (ya62) (DP') (yc62)) := by rw [hwo399]; exact (L388.out.al (by omega) (.cells #[.bool false, .slice xa63 S'.length xc63, .slice ya63 DQ'.length yc63] 25))
  have L414 : Hid (MidC (wo361.heap.size) (v16.heap.size) wo399 (xa63) (S') (xc63)) := by rw [hwo399]; exact (L390.out.al (by omega) (.cells #[.bool false, .slice xa63 S'.length xc63, .slice ya63 DQ'.length yc63] 25))
  have L415 : Hid (MidC (wo361.heap.size) (v16.heap.size) wo399 (ya63) (DQ') (yc63)) := by rw [hwo399]; exact (L391.out.al (by omega) (.cells #[.bool false, .slice xa63 S'.length xc63, .slice ya63 DQ'.length yc63] 25))
  have hb416 : Hid (Below w.heap.size w wo399) := by rw [hwo399]; exact (hb389.out.alloc (by omega) (.cells #[.bool false, .slice xa63 S'.length xc63, .slice ya63 DQ'.length yc63] 25))
  have zwo399 : w.heap.size ≤ wo399.heap.size := hb416.out.size
  clear hwo399 n392 l393 l394 l395 l396 l397 l398 hb389 B377 B378 B379 B380 B381 B382 L383 L384 L385 L386 L387 L388 L390 L391
  refine (c2w_ok H2 1 false xa62 xc62 S' S'.length rfl ya62 yc62 DP' DP'.length rfl false xa63 xc63 S' S'.length rfl ya63 yc63 DQ' DQ'.length rfl _ (by unfold In64; decide) (by omega) (by omega) (L412.out.is (by omega)).1 (L413.out.is (by omega)).1 HLT.out.1 (by omega) (by omega) (L414.out.is (by omega)).1 (L415.out.is (by omega)).1 HLT.out.2 S' DX' HL4.out).mono ?_
  rintro e v17 ⟨xa64, xc64, ya64, yc64, rfl, hX64, hY64, hB⟩
  have z417 : wo399.heap.size ≤ v17.heap.size := hB.size
  have B418 : Hid (Abx v17 (w.heap.size) (.bool false) (.slice (some ⟨b1, o1, none⟩) sz1.length sc1) (.slice da1 dz1.length dc1)) := B401.out.go hB
  have B419 : Hid (Abx v17 (w.heap.size + 1) (.bool false) (.slice (some ⟨b2, o2, none⟩) sz2.length sc2) (.slice da2 dz2.length dc2)) := B402.out.go hB
  have B420 : Hid (Abx v17 (w.heap.size + 1 + 1) (.bool false) (.slice (some ⟨b3, o3, none⟩) sz3.length sc3) (.slice da3 dz3.length dc3)) := B403.out.go hB
  have B421 : Hid (Abx v17 (v8.heap.size) (.bool false) (.slice xa0 sz2.length xc0) (.slice ya0 D0.length yc0)) := B404.out.go hB
  have B422 : Hid (Abx v17 (v14.heap.size) (.bool false) (.slice xa61 S'.length xc61) (.slice ya61 DX'.length yc61)) := B405.out.go hB
  have B423 : Hid (Abx v17 (v15.heap.size) (.bool false) (.slice xa62 S'.length xc62) (.slice ya62 DP'.length yc62)) := B406.out.go hB
  have B424 : Hid (Abx v17 (v16.heap.size) (.bool false) (.slice xa63 S'.length xc63) (.slice ya63 DQ'.length yc63)) := B407.out.go hB
  have L425 : Hid (MidC (v7.heap.size) (v8.heap.size) v17 (xa0) (sz2) (xc0)) := L408.out.go (by omega) hB
  have L426 : Hid (MidC (v7.heap.size) (v8.heap.size) v17 (ya0) (D0) (yc0)) := L409.out.go (by omega) hB
  have L427 : Hid (MidC (v13.drew.heap.size) (v14.heap.size) v17 (xa61) (S') (xc61)) := L410.out.go (by omega) hB
  have L428 : Hid (MidC (v13.drew.heap.size) (v14.heap.size) v17 (ya61) (DX') (yc61)) := L411.out.go (by omega) hB
  have L429 : Hid (MidC (wo329.heap.size) (v15.heap.size) v17 (xa62) (S') (xc62)) := L412.out.go (by omega) hB
  have L430 : Hid (MidC (wo329.heap.size) (v15.heap.size) v17 (ya62) (DP') (yc62)) := L413.out.go (by omega) hB
  have L431 : Hid (MidC (wo361.heap.size) (v16.heap.size) v17 (xa63) (S') (xc63)) := L414.out.go (by omega) hB
  have L432 : Hid (MidC (wo361.heap.size) (v16.heap.size) v17 (ya63) (DQ') (yc63)) := L415.out.go (by omega) hB
  have hb433 : Hid (Below w.heap.size w v17) := hb416.out.trans (hB.mono hb416.out.size)
  have L434 : Hid (MidC (wo399.heap.size) (v17.heap.size) v17 (xa64) (S') (xc64)) := hX64.midc
  have L435 : Hid (MidC (wo399.heap.size) (v17.heap.size) v17 (ya64) (DX') (yc64)) := hY64.midc
  clear hB hb416 B401 B402 B403 B404 B405 B406 B407 L408 L409 L410 L411 L412 L413 L414 L415 hX64 hY64
  clear L429 L430 L431 L432 B423 B424
  have n436 := Abx.new v17 (.bool false) (.slice xa64 S'.length xc64) (.slice ya64 DX'.length yc64)
  have l437 := ((B422.out.al (.cells #[.bool false, .slice xa64 S'.length xc64, .slice ya64 DX'.length yc64] 25))).c0
  have l438 := ((B422.out.al (.cells #[.bool false, .slice xa64 S'.length xc64, .slice ya64 DX'.length yc64] 25))).c1
  have l439 := ((B422.out.al (.cells #[.bool false, .slice xa64 S'.length xc64, .slice ya64 DX'.length yc64] 25))).c2
  have l440 := (n436).c0
  have l441 := (n436).c1
  have l442 := (n436).c2
  go_wp2_with fail
  obtain ⟨wo443, hwo443⟩ : ∃ wo443, wo443 = (v17.alloc (.cells #[.bool false, .slice xa64 S'.length xc64, .slice ya64 DX'.length yc64] 25)) := ⟨_, rfl⟩
  rw [← hwo443]
  have z444 : v17.heap.size + 1 ≤ wo443.heap.size := by rw [hwo443]; simp only [World.size_alloc]; omega
  have B445 : Hid (Abx wo443 (w.heap.size) (.bool false) (.slice (some ⟨b1, o1, none⟩) sz1.length sc1) (.slice da1 dz1.length dc1)) := by rw [hwo443]; exact (B418.out.al (.cells #[.bool false, .slice xa64 S'.length xc64, .slice ya64 DX'.length yc64] 25))
  have B446 : Hid (Abx wo443 (w.heap.size + 1) (.bool false) (.slice (some ⟨b2, o2, none⟩) sz2.length sc2) (.slice da2 dz2.length dc2)) := by rw [hwo443]; exact (B419.out.al (.cells #[.bool false, .slice xa64 S'.length xc64, .slice ya64 DX'.length yc64] 25))
  have B447 : Hid (Abx wo443 (w.heap.size + 1 + 1) (.bool false) (.slice (some ⟨b3, o3, none⟩) sz3.length sc3) (.slice da3 dz3.length dc3)) := by rw [hwo443]; exact (B420.out.al (.cells #[.bool false, .slice xa64 S'.length xc64, .slice ya64 DX'.length yc64] 25))
  have B448 : Hid (Abx wo443 (v8.heap.size) (.bool false) (.slice xa0 sz2.length xc0) (.slice ya0 D0.length yc0)) := by rw [hwo443]; exact (B421.out.al (.cells #[.bool false, .slice xa64 S'.length xc64, .slice ya64 DX'.length yc64] 25))
  have B449 : Hid (Abx wo443 (v14.heap.size) (.bool false) (.slice xa61 S'.length xc61) (.slice ya61 DX'.length yc61)) := by rw [hwo443]; exact (B422.out.al (.cells #[.bool false, .slice xa64 S'.length xc64, .slice ya64 DX'.length yc64] 25))
  have B450 : Hid (Abx wo443 (v17.heap.size) (.bool false) (.slice xa64 S'.length xc64) (.slice ya64 DX'.length yc64)) := by rw [hwo443]; exact n436
  have L451 : Hid (MidC (v7.heap.size) (v8.heap.size) wo443 (xa0) (sz2) (xc0)) := by rw [hwo443]; exact (L425.out.al (by omega) (.cells #[.bool false, .slice xa64 S'.length xc64, .slice ya64 DX'.length yc64] 25))
  have L452 : Hid (MidC (v7.heap.size) (v8.heap.size) wo443 (ya0) (D0) (yc0)) := by rw [hwo443]; exact (L426.out.al (by omega) (.cells #[.bool false, .slice xa64 S'.length xc64, .slice ya64 DX'.length yc64] 25))
  have L453 : Hid (MidC (v13.drew.heap.size) (v14.heap.size) wo443 (xa61) (S') (xc61)) := by rw [hwo443]; exact (L427.out.al (by omega) (.cells #[.bool false, .slice xa64 S'.length xc64, .slice ya64 DX'.length yc64] 25))
  have L454 : Hid (MidC (v13.drew.heap.size) (v14.heap.size) wo443 (ya61) (DX') (yc61)) := by rw [hwo443]; exact (L428.out.al (by omega) (.cells #[.bool false, .slice xa64 S'.length xc64, .slice ya64 DX'.length yc64] 25))
  have L455 : Hid (MidC (wo399.heap.size) (v17.heap.size) wo443 (xa64) (S') (xc64)) := by rw [hwo443]; exact (L434.out.al (by omega) (.cells #[.bool false, .slice xa64 S'.length xc64, .slice ya64 DX'.length yc64] 25))
  have L456 : Hid (MidC (wo399.heap.size) (v17.heap.size) wo443 (ya64) (DX') (yc64)) := by rw [hwo443]; exact (L435.out.al (by omega) (.cells #[.bool false, .slice xa64 S'.length xc64, .slice ya64 DX'.length yc64] 25))
  have hb457 : Hid (Below w.heap.size w wo443) := by rw [hwo443]; exact (hb433.out.alloc (by omega) (.cells #[.bool false, .slice xa64 S'.length xc64, .slice ya64 DX'.length yc64] 25))
  have zwo443 : w.heap.size ≤ wo443.heap.size := hb457.out.size
  clear hwo443 n436 l437 l438 l439 l440 l441 l442 hb433 B418 B419 B420 B421 B422 L425 L426 L427 L428 L434 L435
  refine (alike_eq false xa61 xc61 S' ya61 yc61 DX' xa64 xc64 S' ya64 yc64 DX' rfl rfl (by omega) (by omega) _ (L453.out.is (by omega)) (L454.out.is (by omega)).1 (L455.out.is (by omega)) (L456.out.is (by omega)).1).mono ?_
  rintro e v18 ⟨rfl, hB⟩
  have z458 : wo443.heap.size ≤ v18.heap.size := hB.size
  have B459 : Hid (Abx v18 (w.heap.size) (.bool false) (.slice (some ⟨b1, o1, none⟩) sz1.length sc1) (.slice da1 dz1.length dc1)) := B445.out.go hB
  have B460 : Hid (Abx v18 (w.heap.size + 1) (.bool false) (.slice (some ⟨b2, o2, none⟩) sz2.length sc2) (.slice da2 dz2.length dc2)) := B446.out.go hB
  have B461 : Hid (Abx v18 (w.heap.size + 1 + 1) (.bool false) (.slice (some ⟨b3, o3, none⟩) sz3.length sc3) (.slice da3 dz3.length dc3)) := B447.out.go hB
  have B462 : Hid (Abx v18 (v8.heap.size) (.bool false) (.slice xa0 sz2.length xc0) (.slice ya0 D0.length yc0)) := B448.out.go hB
  have B463 : Hid (Abx v18 (v14.heap.size) (.bool false) (.slice xa61 S'.length xc61) (.slice ya61 DX'.length yc61)) := B449.out.go hB
  have B464 : Hid (Abx v18 (v17.heap.size) (.bool false) (.slice xa64 S'.length xc64) (.slice ya64 DX'.length yc64)) := B450.out.go hB
  have L465 : Hid (MidC (v7.heap.size) (v8.heap.size) v18 (xa0) (sz2) (xc0)) := L451.out.go (by omega) hB
  have L466 : Hid (MidC (v7.heap.size) (v8.heap.size) v18 (ya0) (D0) (yc0)) := L452.out.go (by omega) hB
  have L467 : Hid (MidC (v13.drew.heap.size) (v14.heap.size) v18 (xa61) (S') (xc61)) := L453.out.go (by omega) hB
  have L468 : Hid (MidC (v13.drew.heap.size) (v14.heap.size) v18 (ya61) (DX') (yc61)) := L454.out.go (by omega) hB
  have L469 : Hid (MidC (wo399.heap.size) (v17.heap.size) v18 (xa64) (S') (xc64)) := L455.out.go (by omega) hB
  have L470 : Hid (MidC (wo399.heap.size) (v17.heap.size) v18 (ya64) (DX') (yc64)) := L456.out.go (by omega) hB
  have hb471 : Hid (Below w.heap.size w v18) := hb457.out.trans (hB.mono hb457.out.size)
  clear hB hb457 B445 B446 B447 B448 B449 B450 L451 L452 L453 L454 L455 L456
  clear L467 L468 L469 L470 B463 B464
  go_wp2_with fail
  go_ret
  exact ⟨rfl, hb471.out⟩
theorem psums_walk (HNi : CNi) (H2 : C2d) (c1 : Bool) (sa1 : Option Addr) (sc1 : Nat) (sz1 : List Int) (da1 : Option Addr) (dc1 : Nat) (dz1 : List Int) (c2 : Bool) (sa2 : Option Addr) (sc2 : Nat) (sz2 : List Int) (da2 : Option Addr) (dc2 : Nat) (dz2 : List Int) (c3 : Bool) (sa3 : Option Addr) (sc3 : Nat) (sz3 : List Int) (da3 : Option Addr) (dc3 : Nat) (dz3 : List Int) (w : World) (w8 : IsArrD w sa1 sz1 sc1 da1 dz1 dc1) (w9 : IsArrD w sa2 sz2 sc2 da2 dz2 dc2) (w10 : IsArrD w sa3 sz3 sc3 da3 dz3 dc3) :
    Calls Try.prog 5 #[.agg #[.bool c1, .slice sa1 sz1.length sc1, .slice da1 dz1.length dc1], .agg #[.bool c2, .slice sa2 sz2.length sc2, .slice da2 dz2.length dc2], .agg #[.bool c3, .slice sa3 sz3.length sc3, .slice da3 dz3.length dc3]] w fun e w' => e = .returned (.bool true) ∧ Below w.heap.size w w' := by
  by_cases h1 : GrdP 16 c1 sz1 dz1
  · by_cases h2 : GrdP 16 c2 sz2 dz2
    · by_cases h3 : GrdP 16 c3 sz3 dz3
      · by_cases hs : sz2 = sz3
        · by_cases e1 : nth sz1 1 = nth sz2 0
          · by_cases e2 : nth sz2 1 = nth sz1 0
            · exact sums_rl HNi H2 c1 sa1 sc1 sz1 da1 dc1 dz1 c2 sa2 sc2 sz2 da2 dc2 dz2 c3 sa3 sc3 sz3 da3 dc3 dz3 w w8 w9 w10 h1 h2 h3 hs e1 e2
            · exact sums_r HNi H2 c1 sa1 sc1 sz1 da1 dc1 dz1 c2 sa2 sc2 sz2 da2 dc2 dz2 c3 sa3 sc3 sz3 da3 dc3 dz3 w w8 w9 w10 h1 h2 h3 hs e1 e2
          · by_cases e2 : nth sz2 1 = nth sz1 0
            · exact sums_l HNi H2 c1 sa1 sc1 sz1 da1 dc1 dz1 c2 sa2 sc2 sz2 da2 dc2 dz2 c3 sa3 sc3 sz3 da3 dc3 dz3 w w8 w9 w10 h1 h2 h3 hs e1 e2
            · exact sums_n HNi H2 c1 sa1 sc1 sz1 da1 dc1 dz1 c2 sa2 sc2 sz2 da2 dc2 dz2 c3 sa3 sc3 sz3 da3 dc3 dz3 w w8 w9 w10 h1 h2 h3 hs e1 e2
        · exact sums_s HNi H2 c1 sa1 sc1 sz1 da1 dc1 dz1 c2 sa2 sc2 sz2 da2 dc2 dz2 c3 sa3 sc3 sz3 da3 dc3 dz3 w w8 w9 w10 h1 h2 h3 hs
      · exact sums_g3 HNi H2 c1 sa1 sc1 sz1 da1 dc1 dz1 c2 sa2 sc2 sz2 da2 dc2 dz2 c3 sa3 sc3 sz3 da3 dc3 dz3 w w8 w9 w10 h1 h2 h3
    · exact sums_g2 HNi H2 c1 sa1 sc1 sz1 da1 dc1 dz1 c2 sa2 sc2 sz2 da2 dc2 dz2 c3 sa3 sc3 sz3 da3 dc3 dz3 w w8 w9 w10 h1 h2
  · exact sums_g1 HNi H2 c1 sa1 sc1 sz1 da1 dc1 dz1 c2 sa2 sc2 sz2 da2 dc2 dz2 c3 sa3 sc3 sz3 da3 dc3 dz3 w w8 w9 w10 h1
end Go.Proofs.Ytcpmendkocnlhaa
