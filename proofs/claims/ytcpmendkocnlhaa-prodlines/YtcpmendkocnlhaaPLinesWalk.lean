/-
  The walk of the statement ProdLines, given what the program tells.
-/
import Derived.Test.YtcpmendkocnlhaaPrdz
import Derived.Test.YtcpmendkocnlhaaPrdw
import Derived.Test.YtcpmendkocnlhaaPrdy
import Derived.Test.YtcpmendkocnlhaaFldx
import Derived.Test.YtcpmendkocnlhaaMidc
import Derived.Test.YtcpmendkocnlhaaSarr
namespace Go.Proofs.Ytcpmendkocnlhaa
open Go.RowKit
set_option linter.unusedVariables false

set_option maxRecDepth 100000 in
set_option maxHeartbeats 8000000 in
theorem lines_a (HNi : CNi) (H2 : C2d) (HRd : CRd) (f g : Int) (hf : In64 f) (hg : In64 g) (c1 : Bool) (sa1 : Option Addr) (sc1 : Nat) (sz1 : List Int) (da1 : Option Addr) (dc1 : Nat) (dz1 : List Int) (c2 : Bool) (sa2 : Option Addr) (sc2 : Nat) (sz2 : List Int) (da2 : Option Addr) (dc2 : Nat) (dz2 : List Int) (w : World) (w8 : IsArrD w sa1 sz1 sc1 da1 dz1 dc1) (w9 : IsArrD w sa2 sz2 sc2 da2 dz2 dc2) (F1 : Hid (flawE c1 sz1 dz1 ≠ 0)) :
    Calls Try.prog 6 #[.int .i64 f, .int .i64 g, .agg #[.bool c1, .slice sa1 sz1.length sc1, .slice da1 dz1.length dc1], .agg #[.bool c2, .slice sa2 sz2.length sc2, .slice da2 dz2.length dc2]] w fun e w' => e = .returned (.bool true) ∧ Below w.heap.size w w' := by
  obtain ⟨x11, x12, x3, x4, s64, T⟩ := w8
  have HI1 : Hid (IsC w.heap.size w sa1 sz1 sc1 ∧ IsC w.heap.size w da1 dz1 dc1 ∧ (∀ j, In64 (nth sz1 j)) ∧ ∀ j, In64 (nth dz1 j)) := ⟨x3, x4, s64, T⟩
  clear x3 x4 T s64
  obtain ⟨x21, x22, x3, x4, s64, T⟩ := w9
  have HI2 : Hid (IsC w.heap.size w sa2 sz2 sc2 ∧ IsC w.heap.size w da2 dz2 dc2 ∧ (∀ j, In64 (nth sz2 j)) ∧ ∀ j, In64 (nth dz2 j)) := ⟨x3, x4, s64, T⟩
  clear x3 x4 T s64
  have n1 := Abx.new w (.bool c1) (.slice sa1 sz1.length sc1) (.slice da1 dz1.length dc1)
  have n2 := Abx.new (w.alloc (.cells #[.bool c1, .slice sa1 sz1.length sc1, .slice da1 dz1.length dc1] 25)) (.bool c2) (.slice sa2 sz2.length sc2) (.slice da2 dz2.length dc2)
  simp only [World.size_alloc] at n2
  have n3 := lit_mid ((w.alloc (.cells #[.bool c1, .slice sa1 sz1.length sc1, .slice da1 dz1.length dc1] 25)).alloc (.cells #[.bool c2, .slice sa2 sz2.length sc2, .slice da2 dz2.length dc2] 25)) 3 [1, 2, 3] 3 rfl
  simp only [World.size_alloc, List.map_cons, List.map_nil] at n3
  go_enter Try.func6, Try.ntmps6
  go_wp2_with fail
  obtain ⟨wo4, hwo4⟩ : ∃ wo4, wo4 = (((w.alloc (.cells #[.bool c1, .slice sa1 sz1.length sc1, .slice da1 dz1.length dc1] 25)).alloc (.cells #[.bool c2, .slice sa2 sz2.length sc2, .slice da2 dz2.length dc2] 25)).alloc (.cells #[.int .i64 1, .int .i64 2, .int .i64 3] 3)) := ⟨_, rfl⟩
  rw [← hwo4]
  have z5 : w.heap.size + 1 + 1 + 1 ≤ wo4.heap.size := by rw [hwo4]; simp only [World.size_alloc]; omega
  have B6 : Hid (Abx wo4 (w.heap.size) (.bool c1) (.slice sa1 sz1.length sc1) (.slice da1 dz1.length dc1)) := by rw [hwo4]; exact ((n1.al (.cells #[.bool c2, .slice sa2 sz2.length sc2, .slice da2 dz2.length dc2] 25)).al (.cells #[.int .i64 1, .int .i64 2, .int .i64 3] 3))
  have B7 : Hid (Abx wo4 (w.heap.size + 1) (.bool c2) (.slice sa2 sz2.length sc2) (.slice da2 dz2.length dc2)) := by rw [hwo4]; exact (n2.al (.cells #[.int .i64 1, .int .i64 2, .int .i64 3] 3))
  have L8 : Hid (MidC (w.heap.size + 1 + 1) (w.heap.size + 1 + 1 + 1) wo4 (some ⟨w.heap.size + 1 + 1, 0, none⟩) ([1, 2, 3]) (3)) := by rw [hwo4]; exact n3
  have hb9 : Hid (Below w.heap.size w wo4) := by rw [hwo4]; exact ((((Below.refl w.heap.size w).alloc (by omega) (.cells #[.bool c1, .slice sa1 sz1.length sc1, .slice da1 dz1.length dc1] 25)).alloc (by simp only [World.size_alloc]; omega) (.cells #[.bool c2, .slice sa2 sz2.length sc2, .slice da2 dz2.length dc2] 25)).alloc (by simp only [World.size_alloc]; omega) (.cells #[.int .i64 1, .int .i64 2, .int .i64 3] 3))
  have zwo4 : w.heap.size ≤ wo4.heap.size := hb9.out.size
  clear hwo4 n1 n2 n3
  refine (vec_c (some ⟨w.heap.size + 1 + 1, 0, none⟩) 3 [1, 2, 3] (by simp) _ (L8.out.is (by omega)).1).mono ?_
  rintro e v1 ⟨vap, vcp, gap, gcp, rfl, hVp, hGp, hB⟩
  have z10 : wo4.heap.size ≤ v1.heap.size := hB.size
  have B11 : Hid (Abx v1 (w.heap.size) (.bool c1) (.slice sa1 sz1.length sc1) (.slice da1 dz1.length dc1)) := B6.out.go hB
  have B12 : Hid (Abx v1 (w.heap.size + 1) (.bool c2) (.slice sa2 sz2.length sc2) (.slice da2 dz2.length dc2)) := B7.out.go hB
  have L13 : Hid (MidC (w.heap.size + 1 + 1) (w.heap.size + 1 + 1 + 1) v1 (some ⟨w.heap.size + 1 + 1, 0, none⟩) ([1, 2, 3]) (3)) := L8.out.go (by omega) hB
  have hb14 : Hid (Below w.heap.size w v1) := hb9.out.trans (hB.mono hb9.out.size)
  have L15 : Hid (MidC (wo4.heap.size) (v1.heap.size) v1 (vap) ([(3 : Int)]) (vcp)) := hVp.midc
  have L16 : Hid (MidC (wo4.heap.size) (v1.heap.size) v1 (gap) ([1, 2, 3]) (gcp)) := hGp.midc
  clear hB hb9 B6 B7 L8 hVp hGp
  clear L13
  have n17 := lit_mid v1 3 [1, 0, 3] 3 rfl
  simp only [List.map_cons, List.map_nil] at n17
  go_wp2_with fail
  obtain ⟨wo18, hwo18⟩ : ∃ wo18, wo18 = (v1.alloc (.cells #[.int .i64 1, .int .i64 0, .int .i64 3] 3)) := ⟨_, rfl⟩
  rw [← hwo18]
  have z19 : v1.heap.size + 1 ≤ wo18.heap.size := by rw [hwo18]; simp only [World.size_alloc]; omega
  have B20 : Hid (Abx wo18 (w.heap.size) (.bool c1) (.slice sa1 sz1.length sc1) (.slice da1 dz1.length dc1)) := by rw [hwo18]; exact (B11.out.al (.cells #[.int .i64 1, .int .i64 0, .int .i64 3] 3))
  have B21 : Hid (Abx wo18 (w.heap.size + 1) (.bool c2) (.slice sa2 sz2.length sc2) (.slice da2 dz2.length dc2)) := by rw [hwo18]; exact (B12.out.al (.cells #[.int .i64 1, .int .i64 0, .int .i64 3] 3))
  have L22 : Hid (MidC (wo4.heap.size) (v1.heap.size) wo18 (vap) ([(3 : Int)]) (vcp)) := by rw [hwo18]; exact (L15.out.al (by omega) (.cells #[.int .i64 1, .int .i64 0, .int .i64 3] 3))
  have L23 : Hid (MidC (wo4.heap.size) (v1.heap.size) wo18 (gap) ([1, 2, 3]) (gcp)) := by rw [hwo18]; exact (L16.out.al (by omega) (.cells #[.int .i64 1, .int .i64 0, .int .i64 3] 3))
  have L24 : Hid (MidC (v1.heap.size) (v1.heap.size + 1) wo18 (some ⟨v1.heap.size, 0, none⟩) ([1, 0, 3]) (3)) := by rw [hwo18]; exact n17
  have hb25 : Hid (Below w.heap.size w wo18) := by rw [hwo18]; exact (hb14.out.alloc (by omega) (.cells #[.int .i64 1, .int .i64 0, .int .i64 3] 3))
  have zwo18 : w.heap.size ≤ wo18.heap.size := hb25.out.size
  clear hwo18 n17 hb14 B11 B12 L15 L16
  refine (vec_c (some ⟨v1.heap.size, 0, none⟩) 3 [1, 0, 3] (by simp) _ (L24.out.is (by omega)).1).mono ?_
  rintro e v2 ⟨vaq, vcq, gaq, gcq, rfl, hVq, hGq, hB⟩
  have z26 : wo18.heap.size ≤ v2.heap.size := hB.size
  have B27 : Hid (Abx v2 (w.heap.size) (.bool c1) (.slice sa1 sz1.length sc1) (.slice da1 dz1.length dc1)) := B20.out.go hB
  have B28 : Hid (Abx v2 (w.heap.size + 1) (.bool c2) (.slice sa2 sz2.length sc2) (.slice da2 dz2.length dc2)) := B21.out.go hB
  have L29 : Hid (MidC (wo4.heap.size) (v1.heap.size) v2 (vap) ([(3 : Int)]) (vcp)) := L22.out.go (by omega) hB
  have L30 : Hid (MidC (wo4.heap.size) (v1.heap.size) v2 (gap) ([1, 2, 3]) (gcp)) := L23.out.go (by omega) hB
  have L31 : Hid (MidC (v1.heap.size) (v1.heap.size + 1) v2 (some ⟨v1.heap.size, 0, none⟩) ([1, 0, 3]) (3)) := L24.out.go (by omega) hB
  have hb32 : Hid (Below w.heap.size w v2) := hb25.out.trans (hB.mono hb25.out.size)
  have L33 : Hid (MidC (wo18.heap.size) (v2.heap.size) v2 (vaq) ([(3 : Int)]) (vcq)) := hVq.midc
  have L34 : Hid (MidC (wo18.heap.size) (v2.heap.size) v2 (gaq) ([1, 0, 3]) (gcq)) := hGq.midc
  clear hB hb25 B20 B21 L22 L23 L24 hVq hGq
  clear L31
  go_wp2_with fail
  refine (niw_ok 1 8 false vap vcp [(3 : Int)] 1 rfl gap gcp [1, 2, 3] 3 rfl false vaq vcq [(3 : Int)] 1 rfl gaq gcq [1, 0, 3] 3 rfl _ (by unfold In64; decide) (by unfold In64; decide) (by decide) (by decide) (L29.out.is (by omega)) (L30.out.is (by omega)).1 (lit12 (by decide)) (by decide) (by decide) (L33.out.is (by omega)) (L34.out.is (by omega)).1 (lit12 (by decide)) [] [2] HNi (by show inE 1 8 false [(3 : Int)] [1, 2, 3] false [(3 : Int)] [1, 0, 3] = 0 ∧ inS [(3 : Int)] [(3 : Int)] = [] ∧ inD 1 8 false [(3 : Int)] [1, 2, 3] false [(3 : Int)] [1, 0, 3] = [2]; decide +kernel)).mono ?_
  rintro e v3 ⟨f1, g1, f2, g2, rfl, hX0, hY0, hB⟩
  have z35 : v2.heap.size ≤ v3.heap.size := hB.size
  have B36 : Hid (Abx v3 (w.heap.size) (.bool c1) (.slice sa1 sz1.length sc1) (.slice da1 dz1.length dc1)) := B27.out.go hB
  have B37 : Hid (Abx v3 (w.heap.size + 1) (.bool c2) (.slice sa2 sz2.length sc2) (.slice da2 dz2.length dc2)) := B28.out.go hB
  have L38 : Hid (MidC (wo4.heap.size) (v1.heap.size) v3 (vap) ([(3 : Int)]) (vcp)) := L29.out.go (by omega) hB
  have L39 : Hid (MidC (wo4.heap.size) (v1.heap.size) v3 (gap) ([1, 2, 3]) (gcp)) := L30.out.go (by omega) hB
  have L40 : Hid (MidC (wo18.heap.size) (v2.heap.size) v3 (vaq) ([(3 : Int)]) (vcq)) := L33.out.go (by omega) hB
  have L41 : Hid (MidC (wo18.heap.size) (v2.heap.size) v3 (gaq) ([1, 0, 3]) (gcq)) := L34.out.go (by omega) hB
  have hb42 : Hid (Below w.heap.size w v3) := hb32.out.trans (hB.mono hb32.out.size)
  have L43 : Hid (MidC (v2.heap.size) (v3.heap.size) v3 (f1) ([]) (g1)) := hX0.midc
  have L44 : Hid (MidC (v2.heap.size) (v3.heap.size) v3 (f2) ([2]) (g2)) := hY0.midc
  clear hB hb32 B27 B28 L29 L30 L33 L34 hX0 hY0
  clear L38 L39 L40 L41
  obtain ⟨b45, ob45, rfl, _, _, _, _⟩ := L44.out.at (i := 0) (by decide)
  have n46 := Abx.new v3 (.bool false) (.slice f1 0 g1) (.slice (some ⟨b45, ob45, none⟩) 1 g2)
  have l47 := (n46).c0
  have l48 := (n46).c1
  have l49 := (n46).c2
  obtain ⟨_, _, l50e, _, _, l50, _⟩ := ((L44.out.al (by omega) (.cells #[.bool false, .slice f1 0 g1, .slice (some ⟨b45, ob45, none⟩) 1 g2] 25))).at (i := 0) (by decide)
  cases l50e
  try simp only [Nat.add_zero] at l50
  have l51 := ((B36.out.al (.cells #[.bool false, .slice f1 0 g1, .slice (some ⟨b45, ob45, none⟩) 1 g2] 25))).c0
  have l52 := ((B36.out.al (.cells #[.bool false, .slice f1 0 g1, .slice (some ⟨b45, ob45, none⟩) 1 g2] 25))).c1
  have l53 := ((B36.out.al (.cells #[.bool false, .slice f1 0 g1, .slice (some ⟨b45, ob45, none⟩) 1 g2] 25))).c2
  have l54 := ((B37.out.al (.cells #[.bool false, .slice f1 0 g1, .slice (some ⟨b45, ob45, none⟩) 1 g2] 25))).c0
  have l55 := ((B37.out.al (.cells #[.bool false, .slice f1 0 g1, .slice (some ⟨b45, ob45, none⟩) 1 g2] 25))).c1
  have l56 := ((B37.out.al (.cells #[.bool false, .slice f1 0 g1, .slice (some ⟨b45, ob45, none⟩) 1 g2] 25))).c2
  go_wp2_with fail
  obtain ⟨wo57, hwo57⟩ : ∃ wo57, wo57 = (v3.alloc (.cells #[.bool false, .slice f1 0 g1, .slice (some ⟨b45, ob45, none⟩) 1 g2] 25)) := ⟨_, rfl⟩
  rw [← hwo57]
  have z58 : v3.heap.size + 1 ≤ wo57.heap.size := by rw [hwo57]; simp only [World.size_alloc]; omega
  have B59 : Hid (Abx wo57 (w.heap.size) (.bool c1) (.slice sa1 sz1.length sc1) (.slice da1 dz1.length dc1)) := by rw [hwo57]; exact (B36.out.al (.cells #[.bool false, .slice f1 0 g1, .slice (some ⟨b45, ob45, none⟩) 1 g2] 25))
  have B60 : Hid (Abx wo57 (w.heap.size + 1) (.bool c2) (.slice sa2 sz2.length sc2) (.slice da2 dz2.length dc2)) := by rw [hwo57]; exact (B37.out.al (.cells #[.bool false, .slice f1 0 g1, .slice (some ⟨b45, ob45, none⟩) 1 g2] 25))
  have B61 : Hid (Abx wo57 (v3.heap.size) (.bool false) (.slice f1 0 g1) (.slice (some ⟨b45, ob45, none⟩) 1 g2)) := by rw [hwo57]; exact n46
  have L62 : Hid (MidC (v2.heap.size) (v3.heap.size) wo57 (f1) ([]) (g1)) := by rw [hwo57]; exact (L43.out.al (by omega) (.cells #[.bool false, .slice f1 0 g1, .slice (some ⟨b45, ob45, none⟩) 1 g2] 25))
  have L63 : Hid (MidC (v2.heap.size) (v3.heap.size) wo57 (some ⟨b45, ob45, none⟩) ([2]) (g2)) := by rw [hwo57]; exact (L44.out.al (by omega) (.cells #[.bool false, .slice f1 0 g1, .slice (some ⟨b45, ob45, none⟩) 1 g2] 25))
  have hb64 : Hid (Below w.heap.size w wo57) := by rw [hwo57]; exact (hb42.out.alloc (by omega) (.cells #[.bool false, .slice f1 0 g1, .slice (some ⟨b45, ob45, none⟩) 1 g2] 25))
  have zwo57 : w.heap.size ≤ wo57.heap.size := hb64.out.size
  clear hwo57 n46 l47 l48 l49 l50 l51 l52 l53 l54 l55 l56 hb42 B36 B37 L43 L44
  clear L62 L63 B61
  refine (ints_any sa1 sc1 sz1 sa2 sc2 sz2 x11 _ _ ((HI1.out.1.1.below hb64.out).mono hb64.out.size) ((HI2.out.1.1.below hb64.out).mono hb64.out.size)).mono ?_
  rintro e v4 ⟨rfl, hB⟩
  have z65 : wo57.heap.size ≤ v4.heap.size := hB.size
  have B66 : Hid (Abx v4 (w.heap.size) (.bool c1) (.slice sa1 sz1.length sc1) (.slice da1 dz1.length dc1)) := B59.out.go hB
  have B67 : Hid (Abx v4 (w.heap.size + 1) (.bool c2) (.slice sa2 sz2.length sc2) (.slice da2 dz2.length dc2)) := B60.out.go hB
  have hb68 : Hid (Below w.heap.size w v4) := hb64.out.trans (hB.mono hb64.out.size)
  clear hB hb64 B59 B60
  generalize eqB sz1 sz2 = qq
  have l69 := (B66.out).c0
  have l70 := (B66.out).c1
  have l71 := (B66.out).c2
  go_wp2_with fail
  clear l69 l70 l71
  refine (check_no c1 sa1 sc1 sz1 da1 dc1 dz1 x11 x12 _ ((HI1.out.1.1.below hb68.out).mono hb68.out.size) ((HI1.out.2.1.1.below hb68.out).mono hb68.out.size) F1.out).mono ?_
  rintro e v5 ⟨rfl, hB⟩
  have z72 : v4.heap.size ≤ v5.heap.size := hB.size
  have B73 : Hid (Abx v5 (w.heap.size) (.bool c1) (.slice sa1 sz1.length sc1) (.slice da1 dz1.length dc1)) := B66.out.go hB
  have B74 : Hid (Abx v5 (w.heap.size + 1) (.bool c2) (.slice sa2 sz2.length sc2) (.slice da2 dz2.length dc2)) := B67.out.go hB
  have hb75 : Hid (Below w.heap.size w v5) := hb68.out.trans (hB.mono hb68.out.size)
  clear hB hb68 B66 B67
  go_wp2_with fail
  go_ret
  exact ⟨rfl, hb75.out⟩
set_option maxRecDepth 100000 in
set_option maxHeartbeats 8000000 in
theorem lines_b (HNi : CNi) (H2 : C2d) (HRd : CRd) (f g : Int) (hf : In64 f) (hg : In64 g) (c1 : Bool) (sa1 : Option Addr) (sc1 : Nat) (sz1 : List Int) (da1 : Option Addr) (dc1 : Nat) (dz1 : List Int) (c2 : Bool) (sa2 : Option Addr) (sc2 : Nat) (sz2 : List Int) (da2 : Option Addr) (dc2 : Nat) (dz2 : List Int) (w : World) (w8 : IsArrD w sa1 sz1 sc1 da1 dz1 dc1) (w9 : IsArrD w sa2 sz2 sc2 da2 dz2 dc2) (F1 : Hid (flawE c1 sz1 dz1 = 0)) (F2 : Hid (flawE c2 sz2 dz2 ≠ 0)) :
    Calls Try.prog 6 #[.int .i64 f, .int .i64 g, .agg #[.bool c1, .slice sa1 sz1.length sc1, .slice da1 dz1.length dc1], .agg #[.bool c2, .slice sa2 sz2.length sc2, .slice da2 dz2.length dc2]] w fun e w' => e = .returned (.bool true) ∧ Below w.heap.size w w' := by
  obtain ⟨x11, x12, x3, x4, s64, T⟩ := w8
  have HI1 : Hid (IsC w.heap.size w sa1 sz1 sc1 ∧ IsC w.heap.size w da1 dz1 dc1 ∧ (∀ j, In64 (nth sz1 j)) ∧ ∀ j, In64 (nth dz1 j)) := ⟨x3, x4, s64, T⟩
  clear x3 x4 T s64
  obtain ⟨x21, x22, x3, x4, s64, T⟩ := w9
  have HI2 : Hid (IsC w.heap.size w sa2 sz2 sc2 ∧ IsC w.heap.size w da2 dz2 dc2 ∧ (∀ j, In64 (nth sz2 j)) ∧ ∀ j, In64 (nth dz2 j)) := ⟨x3, x4, s64, T⟩
  clear x3 x4 T s64
  have n1 := Abx.new w (.bool c1) (.slice sa1 sz1.length sc1) (.slice da1 dz1.length dc1)
  have n2 := Abx.new (w.alloc (.cells #[.bool c1, .slice sa1 sz1.length sc1, .slice da1 dz1.length dc1] 25)) (.bool c2) (.slice sa2 sz2.length sc2) (.slice da2 dz2.length dc2)
  simp only [World.size_alloc] at n2
  have n3 := lit_mid ((w.alloc (.cells #[.bool c1, .slice sa1 sz1.length sc1, .slice da1 dz1.length dc1] 25)).alloc (.cells #[.bool c2, .slice sa2 sz2.length sc2, .slice da2 dz2.length dc2] 25)) 3 [1, 2, 3] 3 rfl
  simp only [World.size_alloc, List.map_cons, List.map_nil] at n3
  go_enter Try.func6, Try.ntmps6
  go_wp2_with fail
  obtain ⟨wo4, hwo4⟩ : ∃ wo4, wo4 = (((w.alloc (.cells #[.bool c1, .slice sa1 sz1.length sc1, .slice da1 dz1.length dc1] 25)).alloc (.cells #[.bool c2, .slice sa2 sz2.length sc2, .slice da2 dz2.length dc2] 25)).alloc (.cells #[.int .i64 1, .int .i64 2, .int .i64 3] 3)) := ⟨_, rfl⟩
  rw [← hwo4]
  have z5 : w.heap.size + 1 + 1 + 1 ≤ wo4.heap.size := by rw [hwo4]; simp only [World.size_alloc]; omega
  have B6 : Hid (Abx wo4 (w.heap.size) (.bool c1) (.slice sa1 sz1.length sc1) (.slice da1 dz1.length dc1)) := by rw [hwo4]; exact ((n1.al (.cells #[.bool c2, .slice sa2 sz2.length sc2, .slice da2 dz2.length dc2] 25)).al (.cells #[.int .i64 1, .int .i64 2, .int .i64 3] 3))
  have B7 : Hid (Abx wo4 (w.heap.size + 1) (.bool c2) (.slice sa2 sz2.length sc2) (.slice da2 dz2.length dc2)) := by rw [hwo4]; exact (n2.al (.cells #[.int .i64 1, .int .i64 2, .int .i64 3] 3))
  have L8 : Hid (MidC (w.heap.size + 1 + 1) (w.heap.size + 1 + 1 + 1) wo4 (some ⟨w.heap.size + 1 + 1, 0, none⟩) ([1, 2, 3]) (3)) := by rw [hwo4]; exact n3
  have hb9 : Hid (Below w.heap.size w wo4) := by rw [hwo4]; exact ((((Below.refl w.heap.size w).alloc (by omega) (.cells #[.bool c1, .slice sa1 sz1.length sc1, .slice da1 dz1.length dc1] 25)).alloc (by simp only [World.size_alloc]; omega) (.cells #[.bool c2, .slice sa2 sz2.length sc2, .slice da2 dz2.length dc2] 25)).alloc (by simp only [World.size_alloc]; omega) (.cells #[.int .i64 1, .int .i64 2, .int .i64 3] 3))
  have zwo4 : w.heap.size ≤ wo4.heap.size := hb9.out.size
  clear hwo4 n1 n2 n3
  refine (vec_c (some ⟨w.heap.size + 1 + 1, 0, none⟩) 3 [1, 2, 3] (by simp) _ (L8.out.is (by omega)).1).mono ?_
  rintro e v1 ⟨vap, vcp, gap, gcp, rfl, hVp, hGp, hB⟩
  have z10 : wo4.heap.size ≤ v1.heap.size := hB.size
  have B11 : Hid (Abx v1 (w.heap.size) (.bool c1) (.slice sa1 sz1.length sc1) (.slice da1 dz1.length dc1)) := B6.out.go hB
  have B12 : Hid (Abx v1 (w.heap.size + 1) (.bool c2) (.slice sa2 sz2.length sc2) (.slice da2 dz2.length dc2)) := B7.out.go hB
  have L13 : Hid (MidC (w.heap.size + 1 + 1) (w.heap.size + 1 + 1 + 1) v1 (some ⟨w.heap.size + 1 + 1, 0, none⟩) ([1, 2, 3]) (3)) := L8.out.go (by omega) hB
  have hb14 : Hid (Below w.heap.size w v1) := hb9.out.trans (hB.mono hb9.out.size)
  have L15 : Hid (MidC (wo4.heap.size) (v1.heap.size) v1 (vap) ([(3 : Int)]) (vcp)) := hVp.midc
  have L16 : Hid (MidC (wo4.heap.size) (v1.heap.size) v1 (gap) ([1, 2, 3]) (gcp)) := hGp.midc
  clear hB hb9 B6 B7 L8 hVp hGp
  clear L13
  have n17 := lit_mid v1 3 [1, 0, 3] 3 rfl
  simp only [List.map_cons, List.map_nil] at n17
  go_wp2_with fail
  obtain ⟨wo18, hwo18⟩ : ∃ wo18, wo18 = (v1.alloc (.cells #[.int .i64 1, .int .i64 0, .int .i64 3] 3)) := ⟨_, rfl⟩
  rw [← hwo18]
  have z19 : v1.heap.size + 1 ≤ wo18.heap.size := by rw [hwo18]; simp only [World.size_alloc]; omega
  have B20 : Hid (Abx wo18 (w.heap.size) (.bool c1) (.slice sa1 sz1.length sc1) (.slice da1 dz1.length dc1)) := by rw [hwo18]; exact (B11.out.al (.cells #[.int .i64 1, .int .i64 0, .int .i64 3] 3))
  have B21 : Hid (Abx wo18 (w.heap.size + 1) (.bool c2) (.slice sa2 sz2.length sc2) (.slice da2 dz2.length dc2)) := by rw [hwo18]; exact (B12.out.al (.cells #[.int .i64 1, .int .i64 0, .int .i64 3] 3))
  have L22 : Hid (MidC (wo4.heap.size) (v1.heap.size) wo18 (vap) ([(3 : Int)]) (vcp)) := by rw [hwo18]; exact (L15.out.al (by omega) (.cells #[.int .i64 1, .int .i64 0, .int .i64 3] 3))
  have L23 : Hid (MidC (wo4.heap.size) (v1.heap.size) wo18 (gap) ([1, 2, 3]) (gcp)) := by rw [hwo18]; exact (L16.out.al (by omega) (.cells #[.int .i64 1, .int .i64 0, .int .i64 3] 3))
  have L24 : Hid (MidC (v1.heap.size) (v1.heap.size + 1) wo18 (some ⟨v1.heap.size, 0, none⟩) ([1, 0, 3]) (3)) := by rw [hwo18]; exact n17
  have hb25 : Hid (Below w.heap.size w wo18) := by rw [hwo18]; exact (hb14.out.alloc (by omega) (.cells #[.int .i64 1, .int .i64 0, .int .i64 3] 3))
  have zwo18 : w.heap.size ≤ wo18.heap.size := hb25.out.size
  clear hwo18 n17 hb14 B11 B12 L15 L16
  refine (vec_c (some ⟨v1.heap.size, 0, none⟩) 3 [1, 0, 3] (by simp) _ (L24.out.is (by omega)).1).mono ?_
  rintro e v2 ⟨vaq, vcq, gaq, gcq, rfl, hVq, hGq, hB⟩
  have z26 : wo18.heap.size ≤ v2.heap.size := hB.size
  have B27 : Hid (Abx v2 (w.heap.size) (.bool c1) (.slice sa1 sz1.length sc1) (.slice da1 dz1.length dc1)) := B20.out.go hB
  have B28 : Hid (Abx v2 (w.heap.size + 1) (.bool c2) (.slice sa2 sz2.length sc2) (.slice da2 dz2.length dc2)) := B21.out.go hB
  have L29 : Hid (MidC (wo4.heap.size) (v1.heap.size) v2 (vap) ([(3 : Int)]) (vcp)) := L22.out.go (by omega) hB
  have L30 : Hid (MidC (wo4.heap.size) (v1.heap.size) v2 (gap) ([1, 2, 3]) (gcp)) := L23.out.go (by omega) hB
  have L31 : Hid (MidC (v1.heap.size) (v1.heap.size + 1) v2 (some ⟨v1.heap.size, 0, none⟩) ([1, 0, 3]) (3)) := L24.out.go (by omega) hB
  have hb32 : Hid (Below w.heap.size w v2) := hb25.out.trans (hB.mono hb25.out.size)
  have L33 : Hid (MidC (wo18.heap.size) (v2.heap.size) v2 (vaq) ([(3 : Int)]) (vcq)) := hVq.midc
  have L34 : Hid (MidC (wo18.heap.size) (v2.heap.size) v2 (gaq) ([1, 0, 3]) (gcq)) := hGq.midc
  clear hB hb25 B20 B21 L22 L23 L24 hVq hGq
  clear L31
  go_wp2_with fail
  refine (niw_ok 1 8 false vap vcp [(3 : Int)] 1 rfl gap gcp [1, 2, 3] 3 rfl false vaq vcq [(3 : Int)] 1 rfl gaq gcq [1, 0, 3] 3 rfl _ (by unfold In64; decide) (by unfold In64; decide) (by decide) (by decide) (L29.out.is (by omega)) (L30.out.is (by omega)).1 (lit12 (by decide)) (by decide) (by decide) (L33.out.is (by omega)) (L34.out.is (by omega)).1 (lit12 (by decide)) [] [2] HNi (by show inE 1 8 false [(3 : Int)] [1, 2, 3] false [(3 : Int)] [1, 0, 3] = 0 ∧ inS [(3 : Int)] [(3 : Int)] = [] ∧ inD 1 8 false [(3 : Int)] [1, 2, 3] false [(3 : Int)] [1, 0, 3] = [2]; decide +kernel)).mono ?_
  rintro e v3 ⟨f1, g1, f2, g2, rfl, hX0, hY0, hB⟩
  have z35 : v2.heap.size ≤ v3.heap.size := hB.size
  have B36 : Hid (Abx v3 (w.heap.size) (.bool c1) (.slice sa1 sz1.length sc1) (.slice da1 dz1.length dc1)) := B27.out.go hB
  have B37 : Hid (Abx v3 (w.heap.size + 1) (.bool c2) (.slice sa2 sz2.length sc2) (.slice da2 dz2.length dc2)) := B28.out.go hB
  have L38 : Hid (MidC (wo4.heap.size) (v1.heap.size) v3 (vap) ([(3 : Int)]) (vcp)) := L29.out.go (by omega) hB
  have L39 : Hid (MidC (wo4.heap.size) (v1.heap.size) v3 (gap) ([1, 2, 3]) (gcp)) := L30.out.go (by omega) hB
  have L40 : Hid (MidC (wo18.heap.size) (v2.heap.size) v3 (vaq) ([(3 : Int)]) (vcq)) := L33.out.go (by omega) hB
  have L41 : Hid (MidC (wo18.heap.size) (v2.heap.size) v3 (gaq) ([1, 0, 3]) (gcq)) := L34.out.go (by omega) hB
  have hb42 : Hid (Below w.heap.size w v3) := hb32.out.trans (hB.mono hb32.out.size)
  have L43 : Hid (MidC (v2.heap.size) (v3.heap.size) v3 (f1) ([]) (g1)) := hX0.midc
  have L44 : Hid (MidC (v2.heap.size) (v3.heap.size) v3 (f2) ([2]) (g2)) := hY0.midc
  clear hB hb32 B27 B28 L29 L30 L33 L34 hX0 hY0
  clear L38 L39 L40 L41
  obtain ⟨b45, ob45, rfl, _, _, _, _⟩ := L44.out.at (i := 0) (by decide)
  have n46 := Abx.new v3 (.bool false) (.slice f1 0 g1) (.slice (some ⟨b45, ob45, none⟩) 1 g2)
  have l47 := (n46).c0
  have l48 := (n46).c1
  have l49 := (n46).c2
  obtain ⟨_, _, l50e, _, _, l50, _⟩ := ((L44.out.al (by omega) (.cells #[.bool false, .slice f1 0 g1, .slice (some ⟨b45, ob45, none⟩) 1 g2] 25))).at (i := 0) (by decide)
  cases l50e
  try simp only [Nat.add_zero] at l50
  have l51 := ((B36.out.al (.cells #[.bool false, .slice f1 0 g1, .slice (some ⟨b45, ob45, none⟩) 1 g2] 25))).c0
  have l52 := ((B36.out.al (.cells #[.bool false, .slice f1 0 g1, .slice (some ⟨b45, ob45, none⟩) 1 g2] 25))).c1
  have l53 := ((B36.out.al (.cells #[.bool false, .slice f1 0 g1, .slice (some ⟨b45, ob45, none⟩) 1 g2] 25))).c2
  have l54 := ((B37.out.al (.cells #[.bool false, .slice f1 0 g1, .slice (some ⟨b45, ob45, none⟩) 1 g2] 25))).c0
  have l55 := ((B37.out.al (.cells #[.bool false, .slice f1 0 g1, .slice (some ⟨b45, ob45, none⟩) 1 g2] 25))).c1
  have l56 := ((B37.out.al (.cells #[.bool false, .slice f1 0 g1, .slice (some ⟨b45, ob45, none⟩) 1 g2] 25))).c2
  go_wp2_with fail
  obtain ⟨wo57, hwo57⟩ : ∃ wo57, wo57 = (v3.alloc (.cells #[.bool false, .slice f1 0 g1, .slice (some ⟨b45, ob45, none⟩) 1 g2] 25)) := ⟨_, rfl⟩
  rw [← hwo57]
  have z58 : v3.heap.size + 1 ≤ wo57.heap.size := by rw [hwo57]; simp only [World.size_alloc]; omega
  have B59 : Hid (Abx wo57 (w.heap.size) (.bool c1) (.slice sa1 sz1.length sc1) (.slice da1 dz1.length dc1)) := by rw [hwo57]; exact (B36.out.al (.cells #[.bool false, .slice f1 0 g1, .slice (some ⟨b45, ob45, none⟩) 1 g2] 25))
  have B60 : Hid (Abx wo57 (w.heap.size + 1) (.bool c2) (.slice sa2 sz2.length sc2) (.slice da2 dz2.length dc2)) := by rw [hwo57]; exact (B37.out.al (.cells #[.bool false, .slice f1 0 g1, .slice (some ⟨b45, ob45, none⟩) 1 g2] 25))
  have B61 : Hid (Abx wo57 (v3.heap.size) (.bool false) (.slice f1 0 g1) (.slice (some ⟨b45, ob45, none⟩) 1 g2)) := by rw [hwo57]; exact n46
  have L62 : Hid (MidC (v2.heap.size) (v3.heap.size) wo57 (f1) ([]) (g1)) := by rw [hwo57]; exact (L43.out.al (by omega) (.cells #[.bool false, .slice f1 0 g1, .slice (some ⟨b45, ob45, none⟩) 1 g2] 25))
  have L63 : Hid (MidC (v2.heap.size) (v3.heap.size) wo57 (some ⟨b45, ob45, none⟩) ([2]) (g2)) := by rw [hwo57]; exact (L44.out.al (by omega) (.cells #[.bool false, .slice f1 0 g1, .slice (some ⟨b45, ob45, none⟩) 1 g2] 25))
  have hb64 : Hid (Below w.heap.size w wo57) := by rw [hwo57]; exact (hb42.out.alloc (by omega) (.cells #[.bool false, .slice f1 0 g1, .slice (some ⟨b45, ob45, none⟩) 1 g2] 25))
  have zwo57 : w.heap.size ≤ wo57.heap.size := hb64.out.size
  clear hwo57 n46 l47 l48 l49 l50 l51 l52 l53 l54 l55 l56 hb42 B36 B37 L43 L44
  clear L62 L63 B61
  refine (ints_any sa1 sc1 sz1 sa2 sc2 sz2 x11 _ _ ((HI1.out.1.1.below hb64.out).mono hb64.out.size) ((HI2.out.1.1.below hb64.out).mono hb64.out.size)).mono ?_
  rintro e v4 ⟨rfl, hB⟩
  have z65 : wo57.heap.size ≤ v4.heap.size := hB.size
  have B66 : Hid (Abx v4 (w.heap.size) (.bool c1) (.slice sa1 sz1.length sc1) (.slice da1 dz1.length dc1)) := B59.out.go hB
  have B67 : Hid (Abx v4 (w.heap.size + 1) (.bool c2) (.slice sa2 sz2.length sc2) (.slice da2 dz2.length dc2)) := B60.out.go hB
  have hb68 : Hid (Below w.heap.size w v4) := hb64.out.trans (hB.mono hb64.out.size)
  clear hB hb64 B59 B60
  generalize eqB sz1 sz2 = qq
  have l69 := (B66.out).c0
  have l70 := (B66.out).c1
  have l71 := (B66.out).c2
  go_wp2_with fail
  clear l69 l70 l71
  refine (check_ok c1 sa1 sc1 sz1 da1 dc1 dz1 x11 x12 _ ((HI1.out.1.1.below hb68.out).mono hb68.out.size) ((HI1.out.2.1.1.below hb68.out).mono hb68.out.size) F1.out).mono ?_
  rintro e v5 ⟨rfl, hB⟩
  have z72 : v4.heap.size ≤ v5.heap.size := hB.size
  have B73 : Hid (Abx v5 (w.heap.size) (.bool c1) (.slice sa1 sz1.length sc1) (.slice da1 dz1.length dc1)) := B66.out.go hB
  have B74 : Hid (Abx v5 (w.heap.size + 1) (.bool c2) (.slice sa2 sz2.length sc2) (.slice da2 dz2.length dc2)) := B67.out.go hB
  have hb75 : Hid (Below w.heap.size w v5) := hb68.out.trans (hB.mono hb68.out.size)
  clear hB hb68 B66 B67
  have l76 := (B74.out).c0
  have l77 := (B74.out).c1
  have l78 := (B74.out).c2
  go_wp2_with fail
  clear l76 l77 l78
  refine (check_no c2 sa2 sc2 sz2 da2 dc2 dz2 x21 x22 _ ((HI2.out.1.1.below hb75.out).mono hb75.out.size) ((HI2.out.2.1.1.below hb75.out).mono hb75.out.size) F2.out).mono ?_
  rintro e v6 ⟨rfl, hB⟩
  have z79 : v5.heap.size ≤ v6.heap.size := hB.size
  have B80 : Hid (Abx v6 (w.heap.size) (.bool c1) (.slice sa1 sz1.length sc1) (.slice da1 dz1.length dc1)) := B73.out.go hB
  have B81 : Hid (Abx v6 (w.heap.size + 1) (.bool c2) (.slice sa2 sz2.length sc2) (.slice da2 dz2.length dc2)) := B74.out.go hB
  have hb82 : Hid (Below w.heap.size w v6) := hb75.out.trans (hB.mono hb75.out.size)
  clear hB hb75 B73 B74
  go_wp2_with fail
  go_ret
  exact ⟨rfl, hb82.out⟩
set_option maxRecDepth 100000 in
set_option maxHeartbeats 8000000 in
theorem lines_n (HNi : CNi) (H2 : C2d) (HRd : CRd) (f g : Int) (hf : In64 f) (hg : In64 g) (c1 : Bool) (sa1 : Option Addr) (sc1 : Nat) (sz1 : List Int) (da1 : Option Addr) (dc1 : Nat) (dz1 : List Int) (c2 : Bool) (sa2 : Option Addr) (sc2 : Nat) (sz2 : List Int) (da2 : Option Addr) (dc2 : Nat) (dz2 : List Int) (w : World) (w8 : IsArrD w sa1 sz1 sc1 da1 dz1 dc1) (w9 : IsArrD w sa2 sz2 sc2 da2 dz2 dc2) (F1 : Hid (flawE c1 sz1 dz1 = 0)) (F2 : Hid (flawE c2 sz2 dz2 = 0)) (F3 : Hid (sz1.length ≠ 1)) :
    Calls Try.prog 6 #[.int .i64 f, .int .i64 g, .agg #[.bool c1, .slice sa1 sz1.length sc1, .slice da1 dz1.length dc1], .agg #[.bool c2, .slice sa2 sz2.length sc2, .slice da2 dz2.length dc2]] w fun e w' => e = .returned (.bool true) ∧ Below w.heap.size w w' := by
  have t1 : ((sz1.length : Int) != 1) = true := by have := F3.out; simp; omega
  obtain ⟨x11, x12, x3, x4, s64, T⟩ := w8
  have HI1 : Hid (IsC w.heap.size w sa1 sz1 sc1 ∧ IsC w.heap.size w da1 dz1 dc1 ∧ (∀ j, In64 (nth sz1 j)) ∧ ∀ j, In64 (nth dz1 j)) := ⟨x3, x4, s64, T⟩
  clear x3 x4 T s64
  obtain ⟨x21, x22, x3, x4, s64, T⟩ := w9
  have HI2 : Hid (IsC w.heap.size w sa2 sz2 sc2 ∧ IsC w.heap.size w da2 dz2 dc2 ∧ (∀ j, In64 (nth sz2 j)) ∧ ∀ j, In64 (nth dz2 j)) := ⟨x3, x4, s64, T⟩
  clear x3 x4 T s64
  have n1 := Abx.new w (.bool c1) (.slice sa1 sz1.length sc1) (.slice da1 dz1.length dc1)
  have n2 := Abx.new (w.alloc (.cells #[.bool c1, .slice sa1 sz1.length sc1, .slice da1 dz1.length dc1] 25)) (.bool c2) (.slice sa2 sz2.length sc2) (.slice da2 dz2.length dc2)
  simp only [World.size_alloc] at n2
  have n3 := lit_mid ((w.alloc (.cells #[.bool c1, .slice sa1 sz1.length sc1, .slice da1 dz1.length dc1] 25)).alloc (.cells #[.bool c2, .slice sa2 sz2.length sc2, .slice da2 dz2.length dc2] 25)) 3 [1, 2, 3] 3 rfl
  simp only [World.size_alloc, List.map_cons, List.map_nil] at n3
  go_enter Try.func6, Try.ntmps6
  go_wp2_with fail
  obtain ⟨wo4, hwo4⟩ : ∃ wo4, wo4 = (((w.alloc (.cells #[.bool c1, .slice sa1 sz1.length sc1, .slice da1 dz1.length dc1] 25)).alloc (.cells #[.bool c2, .slice sa2 sz2.length sc2, .slice da2 dz2.length dc2] 25)).alloc (.cells #[.int .i64 1, .int .i64 2, .int .i64 3] 3)) := ⟨_, rfl⟩
  rw [← hwo4]
  have z5 : w.heap.size + 1 + 1 + 1 ≤ wo4.heap.size := by rw [hwo4]; simp only [World.size_alloc]; omega
  have B6 : Hid (Abx wo4 (w.heap.size) (.bool c1) (.slice sa1 sz1.length sc1) (.slice da1 dz1.length dc1)) := by rw [hwo4]; exact ((n1.al (.cells #[.bool c2, .slice sa2 sz2.length sc2, .slice da2 dz2.length dc2] 25)).al (.cells #[.int .i64 1, .int .i64 2, .int .i64 3] 3))
  have B7 : Hid (Abx wo4 (w.heap.size + 1) (.bool c2) (.slice sa2 sz2.length sc2) (.slice da2 dz2.length dc2)) := by rw [hwo4]; exact (n2.al (.cells #[.int .i64 1, .int .i64 2, .int .i64 3] 3))
  have L8 : Hid (MidC (w.heap.size + 1 + 1) (w.heap.size + 1 + 1 + 1) wo4 (some ⟨w.heap.size + 1 + 1, 0, none⟩) ([1, 2, 3]) (3)) := by rw [hwo4]; exact n3
  have hb9 : Hid (Below w.heap.size w wo4) := by rw [hwo4]; exact ((((Below.refl w.heap.size w).alloc (by omega) (.cells #[.bool c1, .slice sa1 sz1.length sc1, .slice da1 dz1.length dc1] 25)).alloc (by simp only [World.size_alloc]; omega) (.cells #[.bool c2, .slice sa2 sz2.length sc2, .slice da2 dz2.length dc2] 25)).alloc (by simp only [World.size_alloc]; omega) (.cells #[.int .i64 1, .int .i64 2, .int .i64 3] 3))
  have zwo4 : w.heap.size ≤ wo4.heap.size := hb9.out.size
  clear hwo4 n1 n2 n3
  refine (vec_c (some ⟨w.heap.size + 1 + 1, 0, none⟩) 3 [1, 2, 3] (by simp) _ (L8.out.is (by omega)).1).mono ?_
  rintro e v1 ⟨vap, vcp, gap, gcp, rfl, hVp, hGp, hB⟩
  have z10 : wo4.heap.size ≤ v1.heap.size := hB.size
  have B11 : Hid (Abx v1 (w.heap.size) (.bool c1) (.slice sa1 sz1.length sc1) (.slice da1 dz1.length dc1)) := B6.out.go hB
  have B12 : Hid (Abx v1 (w.heap.size + 1) (.bool c2) (.slice sa2 sz2.length sc2) (.slice da2 dz2.length dc2)) := B7.out.go hB
  have L13 : Hid (MidC (w.heap.size + 1 + 1) (w.heap.size + 1 + 1 + 1) v1 (some ⟨w.heap.size + 1 + 1, 0, none⟩) ([1, 2, 3]) (3)) := L8.out.go (by omega) hB
  have hb14 : Hid (Below w.heap.size w v1) := hb9.out.trans (hB.mono hb9.out.size)
  have L15 : Hid (MidC (wo4.heap.size) (v1.heap.size) v1 (vap) ([(3 : Int)]) (vcp)) := hVp.midc
  have L16 : Hid (MidC (wo4.heap.size) (v1.heap.size) v1 (gap) ([1, 2, 3]) (gcp)) := hGp.midc
  clear hB hb9 B6 B7 L8 hVp hGp
  clear L13
  have n17 := lit_mid v1 3 [1, 0, 3] 3 rfl
  simp only [List.map_cons, List.map_nil] at n17
  go_wp2_with fail
  obtain ⟨wo18, hwo18⟩ : ∃ wo18, wo18 = (v1.alloc (.cells #[.int .i64 1, .int .i64 0, .int .i64 3] 3)) := ⟨_, rfl⟩
  rw [← hwo18]
  have z19 : v1.heap.size + 1 ≤ wo18.heap.size := by rw [hwo18]; simp only [World.size_alloc]; omega
  have B20 : Hid (Abx wo18 (w.heap.size) (.bool c1) (.slice sa1 sz1.length sc1) (.slice da1 dz1.length dc1)) := by rw [hwo18]; exact (B11.out.al (.cells #[.int .i64 1, .int .i64 0, .int .i64 3] 3))
  have B21 : Hid (Abx wo18 (w.heap.size + 1) (.bool c2) (.slice sa2 sz2.length sc2) (.slice da2 dz2.length dc2)) := by rw [hwo18]; exact (B12.out.al (.cells #[.int .i64 1, .int .i64 0, .int .i64 3] 3))
  have L22 : Hid (MidC (wo4.heap.size) (v1.heap.size) wo18 (vap) ([(3 : Int)]) (vcp)) := by rw [hwo18]; exact (L15.out.al (by omega) (.cells #[.int .i64 1, .int .i64 0, .int .i64 3] 3))
  have L23 : Hid (MidC (wo4.heap.size) (v1.heap.size) wo18 (gap) ([1, 2, 3]) (gcp)) := by rw [hwo18]; exact (L16.out.al (by omega) (.cells #[.int .i64 1, .int .i64 0, .int .i64 3] 3))
  have L24 : Hid (MidC (v1.heap.size) (v1.heap.size + 1) wo18 (some ⟨v1.heap.size, 0, none⟩) ([1, 0, 3]) (3)) := by rw [hwo18]; exact n17
  have hb25 : Hid (Below w.heap.size w wo18) := by rw [hwo18]; exact (hb14.out.alloc (by omega) (.cells #[.int .i64 1, .int .i64 0, .int .i64 3] 3))
  have zwo18 : w.heap.size ≤ wo18.heap.size := hb25.out.size
  clear hwo18 n17 hb14 B11 B12 L15 L16
  refine (vec_c (some ⟨v1.heap.size, 0, none⟩) 3 [1, 0, 3] (by simp) _ (L24.out.is (by omega)).1).mono ?_
  rintro e v2 ⟨vaq, vcq, gaq, gcq, rfl, hVq, hGq, hB⟩
  have z26 : wo18.heap.size ≤ v2.heap.size := hB.size
  have B27 : Hid (Abx v2 (w.heap.size) (.bool c1) (.slice sa1 sz1.length sc1) (.slice da1 dz1.length dc1)) := B20.out.go hB
  have B28 : Hid (Abx v2 (w.heap.size + 1) (.bool c2) (.slice sa2 sz2.length sc2) (.slice da2 dz2.length dc2)) := B21.out.go hB
  have L29 : Hid (MidC (wo4.heap.size) (v1.heap.size) v2 (vap) ([(3 : Int)]) (vcp)) := L22.out.go (by omega) hB
  have L30 : Hid (MidC (wo4.heap.size) (v1.heap.size) v2 (gap) ([1, 2, 3]) (gcp)) := L23.out.go (by omega) hB
  have L31 : Hid (MidC (v1.heap.size) (v1.heap.size + 1) v2 (some ⟨v1.heap.size, 0, none⟩) ([1, 0, 3]) (3)) := L24.out.go (by omega) hB
  have hb32 : Hid (Below w.heap.size w v2) := hb25.out.trans (hB.mono hb25.out.size)
  have L33 : Hid (MidC (wo18.heap.size) (v2.heap.size) v2 (vaq) ([(3 : Int)]) (vcq)) := hVq.midc
  have L34 : Hid (MidC (wo18.heap.size) (v2.heap.size) v2 (gaq) ([1, 0, 3]) (gcq)) := hGq.midc
  clear hB hb25 B20 B21 L22 L23 L24 hVq hGq
  clear L31
  go_wp2_with fail
  refine (niw_ok 1 8 false vap vcp [(3 : Int)] 1 rfl gap gcp [1, 2, 3] 3 rfl false vaq vcq [(3 : Int)] 1 rfl gaq gcq [1, 0, 3] 3 rfl _ (by unfold In64; decide) (by unfold In64; decide) (by decide) (by decide) (L29.out.is (by omega)) (L30.out.is (by omega)).1 (lit12 (by decide)) (by decide) (by decide) (L33.out.is (by omega)) (L34.out.is (by omega)).1 (lit12 (by decide)) [] [2] HNi (by show inE 1 8 false [(3 : Int)] [1, 2, 3] false [(3 : Int)] [1, 0, 3] = 0 ∧ inS [(3 : Int)] [(3 : Int)] = [] ∧ inD 1 8 false [(3 : Int)] [1, 2, 3] false [(3 : Int)] [1, 0, 3] = [2]; decide +kernel)).mono ?_
  rintro e v3 ⟨f1, g1, f2, g2, rfl, hX0, hY0, hB⟩
  have z35 : v2.heap.size ≤ v3.heap.size := hB.size
  have B36 : Hid (Abx v3 (w.heap.size) (.bool c1) (.slice sa1 sz1.length sc1) (.slice da1 dz1.length dc1)) := B27.out.go hB
  have B37 : Hid (Abx v3 (w.heap.size + 1) (.bool c2) (.slice sa2 sz2.length sc2) (.slice da2 dz2.length dc2)) := B28.out.go hB
  have L38 : Hid (MidC (wo4.heap.size) (v1.heap.size) v3 (vap) ([(3 : Int)]) (vcp)) := L29.out.go (by omega) hB
  have L39 : Hid (MidC (wo4.heap.size) (v1.heap.size) v3 (gap) ([1, 2, 3]) (gcp)) := L30.out.go (by omega) hB
  have L40 : Hid (MidC (wo18.heap.size) (v2.heap.size) v3 (vaq) ([(3 : Int)]) (vcq)) := L33.out.go (by omega) hB
  have L41 : Hid (MidC (wo18.heap.size) (v2.heap.size) v3 (gaq) ([1, 0, 3]) (gcq)) := L34.out.go (by omega) hB
  have hb42 : Hid (Below w.heap.size w v3) := hb32.out.trans (hB.mono hb32.out.size)
  have L43 : Hid (MidC (v2.heap.size) (v3.heap.size) v3 (f1) ([]) (g1)) := hX0.midc
  have L44 : Hid (MidC (v2.heap.size) (v3.heap.size) v3 (f2) ([2]) (g2)) := hY0.midc
  clear hB hb32 B27 B28 L29 L30 L33 L34 hX0 hY0
  clear L38 L39 L40 L41
  obtain ⟨b45, ob45, rfl, _, _, _, _⟩ := L44.out.at (i := 0) (by decide)
  have n46 := Abx.new v3 (.bool false) (.slice f1 0 g1) (.slice (some ⟨b45, ob45, none⟩) 1 g2)
  have l47 := (n46).c0
  have l48 := (n46).c1
  have l49 := (n46).c2
  obtain ⟨_, _, l50e, _, _, l50, _⟩ := ((L44.out.al (by omega) (.cells #[.bool false, .slice f1 0 g1, .slice (some ⟨b45, ob45, none⟩) 1 g2] 25))).at (i := 0) (by decide)
  cases l50e
  try simp only [Nat.add_zero] at l50
  have l51 := ((B36.out.al (.cells #[.bool false, .slice f1 0 g1, .slice (some ⟨b45, ob45, none⟩) 1 g2] 25))).c0
  have l52 := ((B36.out.al (.cells #[.bool false, .slice f1 0 g1, .slice (some ⟨b45, ob45, none⟩) 1 g2] 25))).c1
  have l53 := ((B36.out.al (.cells #[.bool false, .slice f1 0 g1, .slice (some ⟨b45, ob45, none⟩) 1 g2] 25))).c2
  have l54 := ((B37.out.al (.cells #[.bool false, .slice f1 0 g1, .slice (some ⟨b45, ob45, none⟩) 1 g2] 25))).c0
  have l55 := ((B37.out.al (.cells #[.bool false, .slice f1 0 g1, .slice (some ⟨b45, ob45, none⟩) 1 g2] 25))).c1
  have l56 := ((B37.out.al (.cells #[.bool false, .slice f1 0 g1, .slice (some ⟨b45, ob45, none⟩) 1 g2] 25))).c2
  go_wp2_with fail
  obtain ⟨wo57, hwo57⟩ : ∃ wo57, wo57 = (v3.alloc (.cells #[.bool false, .slice f1 0 g1, .slice (some ⟨b45, ob45, none⟩) 1 g2] 25)) := ⟨_, rfl⟩
  rw [← hwo57]
  have z58 : v3.heap.size + 1 ≤ wo57.heap.size := by rw [hwo57]; simp only [World.size_alloc]; omega
  have B59 : Hid (Abx wo57 (w.heap.size) (.bool c1) (.slice sa1 sz1.length sc1) (.slice da1 dz1.length dc1)) := by rw [hwo57]; exact (B36.out.al (.cells #[.bool false, .slice f1 0 g1, .slice (some ⟨b45, ob45, none⟩) 1 g2] 25))
  have B60 : Hid (Abx wo57 (w.heap.size + 1) (.bool c2) (.slice sa2 sz2.length sc2) (.slice da2 dz2.length dc2)) := by rw [hwo57]; exact (B37.out.al (.cells #[.bool false, .slice f1 0 g1, .slice (some ⟨b45, ob45, none⟩) 1 g2] 25))
  have B61 : Hid (Abx wo57 (v3.heap.size) (.bool false) (.slice f1 0 g1) (.slice (some ⟨b45, ob45, none⟩) 1 g2)) := by rw [hwo57]; exact n46
  have L62 : Hid (MidC (v2.heap.size) (v3.heap.size) wo57 (f1) ([]) (g1)) := by rw [hwo57]; exact (L43.out.al (by omega) (.cells #[.bool false, .slice f1 0 g1, .slice (some ⟨b45, ob45, none⟩) 1 g2] 25))
  have L63 : Hid (MidC (v2.heap.size) (v3.heap.size) wo57 (some ⟨b45, ob45, none⟩) ([2]) (g2)) := by rw [hwo57]; exact (L44.out.al (by omega) (.cells #[.bool false, .slice f1 0 g1, .slice (some ⟨b45, ob45, none⟩) 1 g2] 25))
  have hb64 : Hid (Below w.heap.size w wo57) := by rw [hwo57]; exact (hb42.out.alloc (by omega) (.cells #[.bool false, .slice f1 0 g1, .slice (some ⟨b45, ob45, none⟩) 1 g2] 25))
  have zwo57 : w.heap.size ≤ wo57.heap.size := hb64.out.size
  clear hwo57 n46 l47 l48 l49 l50 l51 l52 l53 l54 l55 l56 hb42 B36 B37 L43 L44
  clear L62 L63 B61
  refine (ints_any sa1 sc1 sz1 sa2 sc2 sz2 x11 _ _ ((HI1.out.1.1.below hb64.out).mono hb64.out.size) ((HI2.out.1.1.below hb64.out).mono hb64.out.size)).mono ?_
  rintro e v4 ⟨rfl, hB⟩
  have z65 : wo57.heap.size ≤ v4.heap.size := hB.size
  have B66 : Hid (Abx v4 (w.heap.size) (.bool c1) (.slice sa1 sz1.length sc1) (.slice da1 dz1.length dc1)) := B59.out.go hB
  have B67 : Hid (Abx v4 (w.heap.size + 1) (.bool c2) (.slice sa2 sz2.length sc2) (.slice da2 dz2.length dc2)) := B60.out.go hB
  have hb68 : Hid (Below w.heap.size w v4) := hb64.out.trans (hB.mono hb64.out.size)
  clear hB hb64 B59 B60
  generalize eqB sz1 sz2 = qq
  have l69 := (B66.out).c0
  have l70 := (B66.out).c1
  have l71 := (B66.out).c2
  go_wp2_with fail
  clear l69 l70 l71
  refine (check_ok c1 sa1 sc1 sz1 da1 dc1 dz1 x11 x12 _ ((HI1.out.1.1.below hb68.out).mono hb68.out.size) ((HI1.out.2.1.1.below hb68.out).mono hb68.out.size) F1.out).mono ?_
  rintro e v5 ⟨rfl, hB⟩
  have z72 : v4.heap.size ≤ v5.heap.size := hB.size
  have B73 : Hid (Abx v5 (w.heap.size) (.bool c1) (.slice sa1 sz1.length sc1) (.slice da1 dz1.length dc1)) := B66.out.go hB
  have B74 : Hid (Abx v5 (w.heap.size + 1) (.bool c2) (.slice sa2 sz2.length sc2) (.slice da2 dz2.length dc2)) := B67.out.go hB
  have hb75 : Hid (Below w.heap.size w v5) := hb68.out.trans (hB.mono hb68.out.size)
  clear hB hb68 B66 B67
  have l76 := (B74.out).c0
  have l77 := (B74.out).c1
  have l78 := (B74.out).c2
  go_wp2_with fail
  clear l76 l77 l78
  refine (check_ok c2 sa2 sc2 sz2 da2 dc2 dz2 x21 x22 _ ((HI2.out.1.1.below hb75.out).mono hb75.out.size) ((HI2.out.2.1.1.below hb75.out).mono hb75.out.size) F2.out).mono ?_
  rintro e v6 ⟨rfl, hB⟩
  have z79 : v5.heap.size ≤ v6.heap.size := hB.size
  have B80 : Hid (Abx v6 (w.heap.size) (.bool c1) (.slice sa1 sz1.length sc1) (.slice da1 dz1.length dc1)) := B73.out.go hB
  have B81 : Hid (Abx v6 (w.heap.size + 1) (.bool c2) (.slice sa2 sz2.length sc2) (.slice da2 dz2.length dc2)) := B74.out.go hB
  have hb82 : Hid (Below w.heap.size w v6) := hb75.out.trans (hB.mono hb75.out.size)
  clear hB hb75 B73 B74
  have l1 := B80.out.c1
  go_wp2_with fail
  go_ret
  exact ⟨rfl, hb82.out⟩
set_option maxRecDepth 100000 in
set_option maxHeartbeats 8000000 in
theorem lines_s (HNi : CNi) (H2 : C2d) (HRd : CRd) (f g : Int) (hf : In64 f) (hg : In64 g) (c1 : Bool) (sa1 : Option Addr) (sc1 : Nat) (sz1 : List Int) (da1 : Option Addr) (dc1 : Nat) (dz1 : List Int) (c2 : Bool) (sa2 : Option Addr) (sc2 : Nat) (sz2 : List Int) (da2 : Option Addr) (dc2 : Nat) (dz2 : List Int) (w : World) (w8 : IsArrD w sa1 sz1 sc1 da1 dz1 dc1) (w9 : IsArrD w sa2 sz2 sc2 da2 dz2 dc2) (F1 : Hid (flawE c1 sz1 dz1 = 0)) (F2 : Hid (flawE c2 sz2 dz2 = 0)) (F3 : Hid (sz1.length = 1)) (ES : Hid (¬ sz1 = sz2)) :
    Calls Try.prog 6 #[.int .i64 f, .int .i64 g, .agg #[.bool c1, .slice sa1 sz1.length sc1, .slice da1 dz1.length dc1], .agg #[.bool c2, .slice sa2 sz2.length sc2, .slice da2 dz2.length dc2]] w fun e w' => e = .returned (.bool true) ∧ Below w.heap.size w w' := by
  have t1 : ((sz1.length : Int) != 1) = false := by rw [F3.out]; rfl
  obtain ⟨x11, x12, x3, x4, s64, T⟩ := w8
  have HI1 : Hid (IsC w.heap.size w sa1 sz1 sc1 ∧ IsC w.heap.size w da1 dz1 dc1 ∧ (∀ j, In64 (nth sz1 j)) ∧ ∀ j, In64 (nth dz1 j)) := ⟨x3, x4, s64, T⟩
  clear x3 x4 T s64
  obtain ⟨x21, x22, x3, x4, s64, T⟩ := w9
  have HI2 : Hid (IsC w.heap.size w sa2 sz2 sc2 ∧ IsC w.heap.size w da2 dz2 dc2 ∧ (∀ j, In64 (nth sz2 j)) ∧ ∀ j, In64 (nth dz2 j)) := ⟨x3, x4, s64, T⟩
  clear x3 x4 T s64
  have n1 := Abx.new w (.bool c1) (.slice sa1 sz1.length sc1) (.slice da1 dz1.length dc1)
  have n2 := Abx.new (w.alloc (.cells #[.bool c1, .slice sa1 sz1.length sc1, .slice da1 dz1.length dc1] 25)) (.bool c2) (.slice sa2 sz2.length sc2) (.slice da2 dz2.length dc2)
  simp only [World.size_alloc] at n2
  have n3 := lit_mid ((w.alloc (.cells #[.bool c1, .slice sa1 sz1.length sc1, .slice da1 dz1.length dc1] 25)).alloc (.cells #[.bool c2, .slice sa2 sz2.length sc2, .slice da2 dz2.length dc2] 25)) 3 [1, 2, 3] 3 rfl
  simp only [World.size_alloc, List.map_cons, List.map_nil] at n3
  go_enter Try.func6, Try.ntmps6
  go_wp2_with fail
  obtain ⟨wo4, hwo4⟩ : ∃ wo4, wo4 = (((w.alloc (.cells #[.bool c1, .slice sa1 sz1.length sc1, .slice da1 dz1.length dc1] 25)).alloc (.cells #[.bool c2, .slice sa2 sz2.length sc2, .slice da2 dz2.length dc2] 25)).alloc (.cells #[.int .i64 1, .int .i64 2, .int .i64 3] 3)) := ⟨_, rfl⟩
  rw [← hwo4]
  have z5 : w.heap.size + 1 + 1 + 1 ≤ wo4.heap.size := by rw [hwo4]; simp only [World.size_alloc]; omega
  have B6 : Hid (Abx wo4 (w.heap.size) (.bool c1) (.slice sa1 sz1.length sc1) (.slice da1 dz1.length dc1)) := by rw [hwo4]; exact ((n1.al (.cells #[.bool c2, .slice sa2 sz2.length sc2, .slice da2 dz2.length dc2] 25)).al (.cells #[.int .i64 1, .int .i64 2, .int .i64 3] 3))
  have B7 : Hid (Abx wo4 (w.heap.size + 1) (.bool c2) (.slice sa2 sz2.length sc2) (.slice da2 dz2.length dc2)) := by rw [hwo4]; exact (n2.al (.cells #[.int .i64 1, .int .i64 2, .int .i64 3] 3))
  have L8 : Hid (MidC (w.heap.size + 1 + 1) (w.heap.size + 1 + 1 + 1) wo4 (some ⟨w.heap.size + 1 + 1, 0, none⟩) ([1, 2, 3]) (3)) := by rw [hwo4]; exact n3
  have hb9 : Hid (Below w.heap.size w wo4) := by rw [hwo4]; exact ((((Below.refl w.heap.size w).alloc (by omega) (.cells #[.bool c1, .slice sa1 sz1.length sc1, .slice da1 dz1.length dc1] 25)).alloc (by simp only [World.size_alloc]; omega) (.cells #[.bool c2, .slice sa2 sz2.length sc2, .slice da2 dz2.length dc2] 25)).alloc (by simp only [World.size_alloc]; omega) (.cells #[.int .i64 1, .int .i64 2, .int .i64 3] 3))
  have zwo4 : w.heap.size ≤ wo4.heap.size := hb9.out.size
  clear hwo4 n1 n2 n3
  refine (vec_c (some ⟨w.heap.size + 1 + 1, 0, none⟩) 3 [1, 2, 3] (by simp) _ (L8.out.is (by omega)).1).mono ?_
  rintro e v1 ⟨vap, vcp, gap, gcp, rfl, hVp, hGp, hB⟩
  have z10 : wo4.heap.size ≤ v1.heap.size := hB.size
  have B11 : Hid (Abx v1 (w.heap.size) (.bool c1) (.slice sa1 sz1.length sc1) (.slice da1 dz1.length dc1)) := B6.out.go hB
  have B12 : Hid (Abx v1 (w.heap.size + 1) (.bool c2) (.slice sa2 sz2.length sc2) (.slice da2 dz2.length dc2)) := B7.out.go hB
  have L13 : Hid (MidC (w.heap.size + 1 + 1) (w.heap.size + 1 + 1 + 1) v1 (some ⟨w.heap.size + 1 + 1, 0, none⟩) ([1, 2, 3]) (3)) := L8.out.go (by omega) hB
  have hb14 : Hid (Below w.heap.size w v1) := hb9.out.trans (hB.mono hb9.out.size)
  have L15 : Hid (MidC (wo4.heap.size) (v1.heap.size) v1 (vap) ([(3 : Int)]) (vcp)) := hVp.midc
  have L16 : Hid (MidC (wo4.heap.size) (v1.heap.size) v1 (gap) ([1, 2, 3]) (gcp)) := hGp.midc
  clear hB hb9 B6 B7 L8 hVp hGp
  clear L13
  have n17 := lit_mid v1 3 [1, 0, 3] 3 rfl
  simp only [List.map_cons, List.map_nil] at n17
  go_wp2_with fail
  obtain ⟨wo18, hwo18⟩ : ∃ wo18, wo18 = (v1.alloc (.cells #[.int .i64 1, .int .i64 0, .int .i64 3] 3)) := ⟨_, rfl⟩
  rw [← hwo18]
  have z19 : v1.heap.size + 1 ≤ wo18.heap.size := by rw [hwo18]; simp only [World.size_alloc]; omega
  have B20 : Hid (Abx wo18 (w.heap.size) (.bool c1) (.slice sa1 sz1.length sc1) (.slice da1 dz1.length dc1)) := by rw [hwo18]; exact (B11.out.al (.cells #[.int .i64 1, .int .i64 0, .int .i64 3] 3))
  have B21 : Hid (Abx wo18 (w.heap.size + 1) (.bool c2) (.slice sa2 sz2.length sc2) (.slice da2 dz2.length dc2)) := by rw [hwo18]; exact (B12.out.al (.cells #[.int .i64 1, .int .i64 0, .int .i64 3] 3))
  have L22 : Hid (MidC (wo4.heap.size) (v1.heap.size) wo18 (vap) ([(3 : Int)]) (vcp)) := by rw [hwo18]; exact (L15.out.al (by omega) (.cells #[.int .i64 1, .int .i64 0, .int .i64 3] 3))
  have L23 : Hid (MidC (wo4.heap.size) (v1.heap.size) wo18 (gap) ([1, 2, 3]) (gcp)) := by rw [hwo18]; exact (L16.out.al (by omega) (.cells #[.int .i64 1, .int .i64 0, .int .i64 3] 3))
  have L24 : Hid (MidC (v1.heap.size) (v1.heap.size + 1) wo18 (some ⟨v1.heap.size, 0, none⟩) ([1, 0, 3]) (3)) := by rw [hwo18]; exact n17
  have hb25 : Hid (Below w.heap.size w wo18) := by rw [hwo18]; exact (hb14.out.alloc (by omega) (.cells #[.int .i64 1, .int .i64 0, .int .i64 3] 3))
  have zwo18 : w.heap.size ≤ wo18.heap.size := hb25.out.size
  clear hwo18 n17 hb14 B11 B12 L15 L16
  refine (vec_c (some ⟨v1.heap.size, 0, none⟩) 3 [1, 0, 3] (by simp) _ (L24.out.is (by omega)).1).mono ?_
  rintro e v2 ⟨vaq, vcq, gaq, gcq, rfl, hVq, hGq, hB⟩
  have z26 : wo18.heap.size ≤ v2.heap.size := hB.size
  have B27 : Hid (Abx v2 (w.heap.size) (.bool c1) (.slice sa1 sz1.length sc1) (.slice da1 dz1.length dc1)) := B20.out.go hB
  have B28 : Hid (Abx v2 (w.heap.size + 1) (.bool c2) (.slice sa2 sz2.length sc2) (.slice da2 dz2.length dc2)) := B21.out.go hB
  have L29 : Hid (MidC (wo4.heap.size) (v1.heap.size) v2 (vap) ([(3 : Int)]) (vcp)) := L22.out.go (by omega) hB
  have L30 : Hid (MidC (wo4.heap.size) (v1.heap.size) v2 (gap) ([1, 2, 3]) (gcp)) := L23.out.go (by omega) hB
  have L31 : Hid (MidC (v1.heap.size) (v1.heap.size + 1) v2 (some ⟨v1.heap.size, 0, none⟩) ([1, 0, 3]) (3)) := L24.out.go (by omega) hB
  have hb32 : Hid (Below w.heap.size w v2) := hb25.out.trans (hB.mono hb25.out.size)
  have L33 : Hid (MidC (wo18.heap.size) (v2.heap.size) v2 (vaq) ([(3 : Int)]) (vcq)) := hVq.midc
  have L34 : Hid (MidC (wo18.heap.size) (v2.heap.size) v2 (gaq) ([1, 0, 3]) (gcq)) := hGq.midc
  clear hB hb25 B20 B21 L22 L23 L24 hVq hGq
  clear L31
  go_wp2_with fail
  refine (niw_ok 1 8 false vap vcp [(3 : Int)] 1 rfl gap gcp [1, 2, 3] 3 rfl false vaq vcq [(3 : Int)] 1 rfl gaq gcq [1, 0, 3] 3 rfl _ (by unfold In64; decide) (by unfold In64; decide) (by decide) (by decide) (L29.out.is (by omega)) (L30.out.is (by omega)).1 (lit12 (by decide)) (by decide) (by decide) (L33.out.is (by omega)) (L34.out.is (by omega)).1 (lit12 (by decide)) [] [2] HNi (by show inE 1 8 false [(3 : Int)] [1, 2, 3] false [(3 : Int)] [1, 0, 3] = 0 ∧ inS [(3 : Int)] [(3 : Int)] = [] ∧ inD 1 8 false [(3 : Int)] [1, 2, 3] false [(3 : Int)] [1, 0, 3] = [2]; decide +kernel)).mono ?_
  rintro e v3 ⟨f1, g1, f2, g2, rfl, hX0, hY0, hB⟩
  have z35 : v2.heap.size ≤ v3.heap.size := hB.size
  have B36 : Hid (Abx v3 (w.heap.size) (.bool c1) (.slice sa1 sz1.length sc1) (.slice da1 dz1.length dc1)) := B27.out.go hB
  have B37 : Hid (Abx v3 (w.heap.size + 1) (.bool c2) (.slice sa2 sz2.length sc2) (.slice da2 dz2.length dc2)) := B28.out.go hB
  have L38 : Hid (MidC (wo4.heap.size) (v1.heap.size) v3 (vap) ([(3 : Int)]) (vcp)) := L29.out.go (by omega) hB
  have L39 : Hid (MidC (wo4.heap.size) (v1.heap.size) v3 (gap) ([1, 2, 3]) (gcp)) := L30.out.go (by omega) hB
  have L40 : Hid (MidC (wo18.heap.size) (v2.heap.size) v3 (vaq) ([(3 : Int)]) (vcq)) := L33.out.go (by omega) hB
  have L41 : Hid (MidC (wo18.heap.size) (v2.heap.size) v3 (gaq) ([1, 0, 3]) (gcq)) := L34.out.go (by omega) hB
  have hb42 : Hid (Below w.heap.size w v3) := hb32.out.trans (hB.mono hb32.out.size)
  have L43 : Hid (MidC (v2.heap.size) (v3.heap.size) v3 (f1) ([]) (g1)) := hX0.midc
  have L44 : Hid (MidC (v2.heap.size) (v3.heap.size) v3 (f2) ([2]) (g2)) := hY0.midc
  clear hB hb32 B27 B28 L29 L30 L33 L34 hX0 hY0
  clear L38 L39 L40 L41
  obtain ⟨b45, ob45, rfl, _, _, _, _⟩ := L44.out.at (i := 0) (by decide)
  have n46 := Abx.new v3 (.bool false) (.slice f1 0 g1) (.slice (some ⟨b45, ob45, none⟩) 1 g2)
  have l47 := (n46).c0
  have l48 := (n46).c1
  have l49 := (n46).c2
  obtain ⟨_, _, l50e, _, _, l50, _⟩ := ((L44.out.al (by omega) (.cells #[.bool false, .slice f1 0 g1, .slice (some ⟨b45, ob45, none⟩) 1 g2] 25))).at (i := 0) (by decide)
  cases l50e
  try simp only [Nat.add_zero] at l50
  have l51 := ((B36.out.al (.cells #[.bool false, .slice f1 0 g1, .slice (some ⟨b45, ob45, none⟩) 1 g2] 25))).c0
  have l52 := ((B36.out.al (.cells #[.bool false, .slice f1 0 g1, .slice (some ⟨b45, ob45, none⟩) 1 g2] 25))).c1
  have l53 := ((B36.out.al (.cells #[.bool false, .slice f1 0 g1, .slice (some ⟨b45, ob45, none⟩) 1 g2] 25))).c2
  have l54 := ((B37.out.al (.cells #[.bool false, .slice f1 0 g1, .slice (some ⟨b45, ob45, none⟩) 1 g2] 25))).c0
  have l55 := ((B37.out.al (.cells #[.bool false, .slice f1 0 g1, .slice (some ⟨b45, ob45, none⟩) 1 g2] 25))).c1
  have l56 := ((B37.out.al (.cells #[.bool false, .slice f1 0 g1, .slice (some ⟨b45, ob45, none⟩) 1 g2] 25))).c2
  go_wp2_with fail
  obtain ⟨wo57, hwo57⟩ : ∃ wo57, wo57 = (v3.alloc (.cells #[.bool false, .slice f1 0 g1, .slice (some ⟨b45, ob45, none⟩) 1 g2] 25)) := ⟨_, rfl⟩
  rw [← hwo57]
  have z58 : v3.heap.size + 1 ≤ wo57.heap.size := by rw [hwo57]; simp only [World.size_alloc]; omega
  have B59 : Hid (Abx wo57 (w.heap.size) (.bool c1) (.slice sa1 sz1.length sc1) (.slice da1 dz1.length dc1)) := by rw [hwo57]; exact (B36.out.al (.cells #[.bool false, .slice f1 0 g1, .slice (some ⟨b45, ob45, none⟩) 1 g2] 25))
  have B60 : Hid (Abx wo57 (w.heap.size + 1) (.bool c2) (.slice sa2 sz2.length sc2) (.slice da2 dz2.length dc2)) := by rw [hwo57]; exact (B37.out.al (.cells #[.bool false, .slice f1 0 g1, .slice (some ⟨b45, ob45, none⟩) 1 g2] 25))
  have B61 : Hid (Abx wo57 (v3.heap.size) (.bool false) (.slice f1 0 g1) (.slice (some ⟨b45, ob45, none⟩) 1 g2)) := by rw [hwo57]; exact n46
  have L62 : Hid (MidC (v2.heap.size) (v3.heap.size) wo57 (f1) ([]) (g1)) := by rw [hwo57]; exact (L43.out.al (by omega) (.cells #[.bool false, .slice f1 0 g1, .slice (some ⟨b45, ob45, none⟩) 1 g2] 25))
  have L63 : Hid (MidC (v2.heap.size) (v3.heap.size) wo57 (some ⟨b45, ob45, none⟩) ([2]) (g2)) := by rw [hwo57]; exact (L44.out.al (by omega) (.cells #[.bool false, .slice f1 0 g1, .slice (some ⟨b45, ob45, none⟩) 1 g2] 25))
  have hb64 : Hid (Below w.heap.size w wo57) := by rw [hwo57]; exact (hb42.out.alloc (by omega) (.cells #[.bool false, .slice f1 0 g1, .slice (some ⟨b45, ob45, none⟩) 1 g2] 25))
  have zwo57 : w.heap.size ≤ wo57.heap.size := hb64.out.size
  clear hwo57 n46 l47 l48 l49 l50 l51 l52 l53 l54 l55 l56 hb42 B36 B37 L43 L44
  clear L62 L63 B61
  refine (ints_any sa1 sc1 sz1 sa2 sc2 sz2 x11 _ _ ((HI1.out.1.1.below hb64.out).mono hb64.out.size) ((HI2.out.1.1.below hb64.out).mono hb64.out.size)).mono ?_
  rintro e v4 ⟨rfl, hB⟩
  have z65 : wo57.heap.size ≤ v4.heap.size := hB.size
  have B66 : Hid (Abx v4 (w.heap.size) (.bool c1) (.slice sa1 sz1.length sc1) (.slice da1 dz1.length dc1)) := B59.out.go hB
  have B67 : Hid (Abx v4 (w.heap.size + 1) (.bool c2) (.slice sa2 sz2.length sc2) (.slice da2 dz2.length dc2)) := B60.out.go hB
  have hb68 : Hid (Below w.heap.size w v4) := hb64.out.trans (hB.mono hb64.out.size)
  clear hB hb64 B59 B60
  rw [eqB_false ES.out]
  have l69 := (B66.out).c0
  have l70 := (B66.out).c1
  have l71 := (B66.out).c2
  go_wp2_with fail
  clear l69 l70 l71
  refine (check_ok c1 sa1 sc1 sz1 da1 dc1 dz1 x11 x12 _ ((HI1.out.1.1.below hb68.out).mono hb68.out.size) ((HI1.out.2.1.1.below hb68.out).mono hb68.out.size) F1.out).mono ?_
  rintro e v5 ⟨rfl, hB⟩
  have z72 : v4.heap.size ≤ v5.heap.size := hB.size
  have B73 : Hid (Abx v5 (w.heap.size) (.bool c1) (.slice sa1 sz1.length sc1) (.slice da1 dz1.length dc1)) := B66.out.go hB
  have B74 : Hid (Abx v5 (w.heap.size + 1) (.bool c2) (.slice sa2 sz2.length sc2) (.slice da2 dz2.length dc2)) := B67.out.go hB
  have hb75 : Hid (Below w.heap.size w v5) := hb68.out.trans (hB.mono hb68.out.size)
  clear hB hb68 B66 B67
  have l76 := (B74.out).c0
  have l77 := (B74.out).c1
  have l78 := (B74.out).c2
  go_wp2_with fail
  clear l76 l77 l78
  refine (check_ok c2 sa2 sc2 sz2 da2 dc2 dz2 x21 x22 _ ((HI2.out.1.1.below hb75.out).mono hb75.out.size) ((HI2.out.2.1.1.below hb75.out).mono hb75.out.size) F2.out).mono ?_
  rintro e v6 ⟨rfl, hB⟩
  have z79 : v5.heap.size ≤ v6.heap.size := hB.size
  have B80 : Hid (Abx v6 (w.heap.size) (.bool c1) (.slice sa1 sz1.length sc1) (.slice da1 dz1.length dc1)) := B73.out.go hB
  have B81 : Hid (Abx v6 (w.heap.size + 1) (.bool c2) (.slice sa2 sz2.length sc2) (.slice da2 dz2.length dc2)) := B74.out.go hB
  have hb82 : Hid (Below w.heap.size w v6) := hb75.out.trans (hB.mono hb75.out.size)
  clear hB hb75 B73 B74
  have l1 := B80.out.c1
  go_wp2_with fail
  go_ret
  exact ⟨rfl, hb82.out⟩
set_option maxRecDepth 100000 in
set_option maxHeartbeats 8000000 in
theorem lines_e (HNi : CNi) (H2 : C2d) (HRd : CRd) (f g : Int) (hf : In64 f) (hg : In64 g) (c1 : Bool) (sa1 : Option Addr) (sc1 : Nat) (sz1 : List Int) (da1 : Option Addr) (dc1 : Nat) (dz1 : List Int) (c2 : Bool) (sa2 : Option Addr) (sc2 : Nat) (sz2 : List Int) (da2 : Option Addr) (dc2 : Nat) (dz2 : List Int) (w : World) (w8 : IsArrD w sa1 sz1 sc1 da1 dz1 dc1) (w9 : IsArrD w sa2 sz2 sc2 da2 dz2 dc2) (F1 : Hid (flawE c1 sz1 dz1 = 0)) (F2 : Hid (flawE c2 sz2 dz2 = 0)) (F3 : Hid (sz1.length = 1)) (ES : Hid (sz1 = sz2)) (Q : Hid (e2E g c1 sz1 dz1 c2 sz2 dz2 ≠ 0)) :
    Calls Try.prog 6 #[.int .i64 f, .int .i64 g, .agg #[.bool c1, .slice sa1 sz1.length sc1, .slice da1 dz1.length dc1], .agg #[.bool c2, .slice sa2 sz2.length sc2, .slice da2 dz2.length dc2]] w fun e w' => e = .returned (.bool true) ∧ Below w.heap.size w w' := by
  have t1 : ((sz1.length : Int) != 1) = false := by rw [F3.out]; rfl
  obtain ⟨D0, DD, R1, R2, R3, R4, TT, L1, L2⟩ := lines13 (f := f) (g := g) F1.out F2.out F3.out ES.out w8.2.2.2.2.2 w9.2.2.2.2.2
  have HR1 : Hid (e2V g c1 sz1 dz1 c2 sz2 dz2 = D0 ∧ shp sz1 sz2 = sz1) := R1
  have HR2 : Hid (inE f g c1 sz1 dz1 c2 sz2 dz2 = 0 ↔ e2E g c1 sz1 dz1 c2 sz2 dz2 = 0 ∧ rdE f 0 false sz1 D0 = 0) := R2
  have HR3 : Hid (inS sz1 sz2 = [] ∧ inD f g c1 sz1 dz1 c2 sz2 dz2 = DD) := R3
  have HR4 : Hid (xout (0 : Int).toNat sz1 = [] ∧ rdD f sz1 D0 (0 : Int).toNat = DD) := R4
  have HTT : Hid (∀ j, In64 (nth D0 j)) := TT
  clear R1 R2 R3 R4 TT
  obtain ⟨E1, hE1⟩ : ∃ E, E = inE f g c1 sz1 dz1 c2 sz2 dz2 := ⟨_, rfl⟩
  have HE1 : Hid (inE f g c1 sz1 dz1 c2 sz2 dz2 = E1 ∧ E1 ≠ 0) := ⟨hE1.symm, by rw [hE1]; exact fun h => Q.out (HR2.out.1 h).1⟩
  clear hE1
  obtain ⟨E2, hE2⟩ : ∃ E, E = e2E g c1 sz1 dz1 c2 sz2 dz2 := ⟨_, rfl⟩
  have HE2 : Hid (e2E g c1 sz1 dz1 c2 sz2 dz2 = E2 ∧ E2 ≠ 0) := ⟨hE2.symm, by rw [hE2]; exact Q.out⟩
  clear hE2
  obtain ⟨x11, x12, x3, x4, s64, T⟩ := w8
  have HI1 : Hid (IsC w.heap.size w sa1 sz1 sc1 ∧ IsC w.heap.size w da1 dz1 dc1 ∧ (∀ j, In64 (nth sz1 j)) ∧ ∀ j, In64 (nth dz1 j)) := ⟨x3, x4, s64, T⟩
  clear x3 x4 T s64
  obtain ⟨x21, x22, x3, x4, s64, T⟩ := w9
  have HI2 : Hid (IsC w.heap.size w sa2 sz2 sc2 ∧ IsC w.heap.size w da2 dz2 dc2 ∧ (∀ j, In64 (nth sz2 j)) ∧ ∀ j, In64 (nth dz2 j)) := ⟨x3, x4, s64, T⟩
  clear x3 x4 T s64
  have n1 := Abx.new w (.bool c1) (.slice sa1 sz1.length sc1) (.slice da1 dz1.length dc1)
  have n2 := Abx.new (w.alloc (.cells #[.bool c1, .slice sa1 sz1.length sc1, .slice da1 dz1.length dc1] 25)) (.bool c2) (.slice sa2 sz2.length sc2) (.slice da2 dz2.length dc2)
  simp only [World.size_alloc] at n2
  have n3 := lit_mid ((w.alloc (.cells #[.bool c1, .slice sa1 sz1.length sc1, .slice da1 dz1.length dc1] 25)).alloc (.cells #[.bool c2, .slice sa2 sz2.length sc2, .slice da2 dz2.length dc2] 25)) 3 [1, 2, 3] 3 rfl
  simp only [World.size_alloc, List.map_cons, List.map_nil] at n3
  go_enter Try.func6, Try.ntmps6
  go_wp2_with fail
  obtain ⟨wo4, hwo4⟩ : ∃ wo4, wo4 = (((w.alloc (.cells #[.bool c1, .slice sa1 sz1.length sc1, .slice da1 dz1.length dc1] 25)).alloc (.cells #[.bool c2, .slice sa2 sz2.length sc2, .slice da2 dz2.length dc2] 25)).alloc (.cells #[.int .i64 1, .int .i64 2, .int .i64 3] 3)) := ⟨_, rfl⟩
  rw [← hwo4]
  have z5 : w.heap.size + 1 + 1 + 1 ≤ wo4.heap.size := by rw [hwo4]; simp only [World.size_alloc]; omega
  have B6 : Hid (Abx wo4 (w.heap.size) (.bool c1) (.slice sa1 sz1.length sc1) (.slice da1 dz1.length dc1)) := by rw [hwo4]; exact ((n1.al (.cells #[.bool c2, .slice sa2 sz2.length sc2, .slice da2 dz2.length dc2] 25)).al (.cells #[.int .i64 1, .int .i64 2, .int .i64 3] 3))
  have B7 : Hid (Abx wo4 (w.heap.size + 1) (.bool c2) (.slice sa2 sz2.length sc2) (.slice da2 dz2.length dc2)) := by rw [hwo4]; exact (n2.al (.cells #[.int .i64 1, .int .i64 2, .int .i64 3] 3))
  have L8 : Hid (MidC (w.heap.size + 1 + 1) (w.heap.size + 1 + 1 + 1) wo4 (some ⟨w.heap.size + 1 + 1, 0, none⟩) ([1, 2, 3]) (3)) := by rw [hwo4]; exact n3
  have hb9 : Hid (Below w.heap.size w wo4) := by rw [hwo4]; exact ((((Below.refl w.heap.size w).alloc (by omega) (.cells #[.bool c1, .slice sa1 sz1.length sc1, .slice da1 dz1.length dc1] 25)).alloc (by simp only [World.size_alloc]; omega) (.cells #[.bool c2, .slice sa2 sz2.length sc2, .slice da2 dz2.length dc2] 25)).alloc (by simp only [World.size_alloc]; omega) (.cells #[.int .i64 1, .int .i64 2, .int .i64 3] 3))
  have zwo4 : w.heap.size ≤ wo4.heap.size := hb9.out.size
  clear hwo4 n1 n2 n3
  refine (vec_c (some ⟨w.heap.size + 1 + 1, 0, none⟩) 3 [1, 2, 3] (by simp) _ (L8.out.is (by omega)).1).mono ?_
  rintro e v1 ⟨vap, vcp, gap, gcp, rfl, hVp, hGp, hB⟩
  have z10 : wo4.heap.size ≤ v1.heap.size := hB.size
  have B11 : Hid (Abx v1 (w.heap.size) (.bool c1) (.slice sa1 sz1.length sc1) (.slice da1 dz1.length dc1)) := B6.out.go hB
  have B12 : Hid (Abx v1 (w.heap.size + 1) (.bool c2) (.slice sa2 sz2.length sc2) (.slice da2 dz2.length dc2)) := B7.out.go hB
  have L13 : Hid (MidC (w.heap.size + 1 + 1) (w.heap.size + 1 + 1 + 1) v1 (some ⟨w.heap.size + 1 + 1, 0, none⟩) ([1, 2, 3]) (3)) := L8.out.go (by omega) hB
  have hb14 : Hid (Below w.heap.size w v1) := hb9.out.trans (hB.mono hb9.out.size)
  have L15 : Hid (MidC (wo4.heap.size) (v1.heap.size) v1 (vap) ([(3 : Int)]) (vcp)) := hVp.midc
  have L16 : Hid (MidC (wo4.heap.size) (v1.heap.size) v1 (gap) ([1, 2, 3]) (gcp)) := hGp.midc
  clear hB hb9 B6 B7 L8 hVp hGp
  clear L13
  have n17 := lit_mid v1 3 [1, 0, 3] 3 rfl
  simp only [List.map_cons, List.map_nil] at n17
  go_wp2_with fail
  obtain ⟨wo18, hwo18⟩ : ∃ wo18, wo18 = (v1.alloc (.cells #[.int .i64 1, .int .i64 0, .int .i64 3] 3)) := ⟨_, rfl⟩
  rw [← hwo18]
  have z19 : v1.heap.size + 1 ≤ wo18.heap.size := by rw [hwo18]; simp only [World.size_alloc]; omega
  have B20 : Hid (Abx wo18 (w.heap.size) (.bool c1) (.slice sa1 sz1.length sc1) (.slice da1 dz1.length dc1)) := by rw [hwo18]; exact (B11.out.al (.cells #[.int .i64 1, .int .i64 0, .int .i64 3] 3))
  have B21 : Hid (Abx wo18 (w.heap.size + 1) (.bool c2) (.slice sa2 sz2.length sc2) (.slice da2 dz2.length dc2)) := by rw [hwo18]; exact (B12.out.al (.cells #[.int .i64 1, .int .i64 0, .int .i64 3] 3))
  have L22 : Hid (MidC (wo4.heap.size) (v1.heap.size) wo18 (vap) ([(3 : Int)]) (vcp)) := by rw [hwo18]; exact (L15.out.al (by omega) (.cells #[.int .i64 1, .int .i64 0, .int .i64 3] 3))
  have L23 : Hid (MidC (wo4.heap.size) (v1.heap.size) wo18 (gap) ([1, 2, 3]) (gcp)) := by rw [hwo18]; exact (L16.out.al (by omega) (.cells #[.int .i64 1, .int .i64 0, .int .i64 3] 3))
  have L24 : Hid (MidC (v1.heap.size) (v1.heap.size + 1) wo18 (some ⟨v1.heap.size, 0, none⟩) ([1, 0, 3]) (3)) := by rw [hwo18]; exact n17
  have hb25 : Hid (Below w.heap.size w wo18) := by rw [hwo18]; exact (hb14.out.alloc (by omega) (.cells #[.int .i64 1, .int .i64 0, .int .i64 3] 3))
  have zwo18 : w.heap.size ≤ wo18.heap.size := hb25.out.size
  clear hwo18 n17 hb14 B11 B12 L15 L16
  refine (vec_c (some ⟨v1.heap.size, 0, none⟩) 3 [1, 0, 3] (by simp) _ (L24.out.is (by omega)).1).mono ?_
  rintro e v2 ⟨vaq, vcq, gaq, gcq, rfl, hVq, hGq, hB⟩
  have z26 : wo18.heap.size ≤ v2.heap.size := hB.size
  have B27 : Hid (Abx v2 (w.heap.size) (.bool c1) (.slice sa1 sz1.length sc1) (.slice da1 dz1.length dc1)) := B20.out.go hB
  have B28 : Hid (Abx v2 (w.heap.size + 1) (.bool c2) (.slice sa2 sz2.length sc2) (.slice da2 dz2.length dc2)) := B21.out.go hB
  have L29 : Hid (MidC (wo4.heap.size) (v1.heap.size) v2 (vap) ([(3 : Int)]) (vcp)) := L22.out.go (by omega) hB
  have L30 : Hid (MidC (wo4.heap.size) (v1.heap.size) v2 (gap) ([1, 2, 3]) (gcp)) := L23.out.go (by omega) hB
  have L31 : Hid (MidC (v1.heap.size) (v1.heap.size + 1) v2 (some ⟨v1.heap.size, 0, none⟩) ([1, 0, 3]) (3)) := L24.out.go (by omega) hB
  have hb32 : Hid (Below w.heap.size w v2) := hb25.out.trans (hB.mono hb25.out.size)
  have L33 : Hid (MidC (wo18.heap.size) (v2.heap.size) v2 (vaq) ([(3 : Int)]) (vcq)) := hVq.midc
  have L34 : Hid (MidC (wo18.heap.size) (v2.heap.size) v2 (gaq) ([1, 0, 3]) (gcq)) := hGq.midc
  clear hB hb25 B20 B21 L22 L23 L24 hVq hGq
  clear L31
  go_wp2_with fail
  refine (niw_ok 1 8 false vap vcp [(3 : Int)] 1 rfl gap gcp [1, 2, 3] 3 rfl false vaq vcq [(3 : Int)] 1 rfl gaq gcq [1, 0, 3] 3 rfl _ (by unfold In64; decide) (by unfold In64; decide) (by decide) (by decide) (L29.out.is (by omega)) (L30.out.is (by omega)).1 (lit12 (by decide)) (by decide) (by decide) (L33.out.is (by omega)) (L34.out.is (by omega)).1 (lit12 (by decide)) [] [2] HNi (by show inE 1 8 false [(3 : Int)] [1, 2, 3] false [(3 : Int)] [1, 0, 3] = 0 ∧ inS [(3 : Int)] [(3 : Int)] = [] ∧ inD 1 8 false [(3 : Int)] [1, 2, 3] false [(3 : Int)] [1, 0, 3] = [2]; decide +kernel)).mono ?_
  rintro e v3 ⟨f1, g1, f2, g2, rfl, hX0, hY0, hB⟩
  have z35 : v2.heap.size ≤ v3.heap.size := hB.size
  have B36 : Hid (Abx v3 (w.heap.size) (.bool c1) (.slice sa1 sz1.length sc1) (.slice da1 dz1.length dc1)) := B27.out.go hB
  have B37 : Hid (Abx v3 (w.heap.size + 1) (.bool c2) (.slice sa2 sz2.length sc2) (.slice da2 dz2.length dc2)) := B28.out.go hB
  have L38 : Hid (MidC (wo4.heap.size) (v1.heap.size) v3 (vap) ([(3 : Int)]) (vcp)) := L29.out.go (by omega) hB
  have L39 : Hid (MidC (wo4.heap.size) (v1.heap.size) v3 (gap) ([1, 2, 3]) (gcp)) := L30.out.go (by omega) hB
  have L40 : Hid (MidC (wo18.heap.size) (v2.heap.size) v3 (vaq) ([(3 : Int)]) (vcq)) := L33.out.go (by omega) hB
  have L41 : Hid (MidC (wo18.heap.size) (v2.heap.size) v3 (gaq) ([1, 0, 3]) (gcq)) := L34.out.go (by omega) hB
  have hb42 : Hid (Below w.heap.size w v3) := hb32.out.trans (hB.mono hb32.out.size)
  have L43 : Hid (MidC (v2.heap.size) (v3.heap.size) v3 (f1) ([]) (g1)) := hX0.midc
  have L44 : Hid (MidC (v2.heap.size) (v3.heap.size) v3 (f2) ([2]) (g2)) := hY0.midc
  clear hB hb32 B27 B28 L29 L30 L33 L34 hX0 hY0
  clear L38 L39 L40 L41
  obtain ⟨b45, ob45, rfl, _, _, _, _⟩ := L44.out.at (i := 0) (by decide)
  have n46 := Abx.new v3 (.bool false) (.slice f1 0 g1) (.slice (some ⟨b45, ob45, none⟩) 1 g2)
  have l47 := (n46).c0
  have l48 := (n46).c1
  have l49 := (n46).c2
  obtain ⟨_, _, l50e, _, _, l50, _⟩ := ((L44.out.al (by omega) (.cells #[.bool false, .slice f1 0 g1, .slice (some ⟨b45, ob45, none⟩) 1 g2] 25))).at (i := 0) (by decide)
  cases l50e
  try simp only [Nat.add_zero] at l50
  have l51 := ((B36.out.al (.cells #[.bool false, .slice f1 0 g1, .slice (some ⟨b45, ob45, none⟩) 1 g2] 25))).c0
  have l52 := ((B36.out.al (.cells #[.bool false, .slice f1 0 g1, .slice (some ⟨b45, ob45, none⟩) 1 g2] 25))).c1
  have l53 := ((B36.out.al (.cells #[.bool false, .slice f1 0 g1, .slice (some ⟨b45, ob45, none⟩) 1 g2] 25))).c2
  have l54 := ((B37.out.al (.cells #[.bool false, .slice f1 0 g1, .slice (some ⟨b45, ob45, none⟩) 1 g2] 25))).c0
  have l55 := ((B37.out.al (.cells #[.bool false, .slice f1 0 g1, .slice (some ⟨b45, ob45, none⟩) 1 g2] 25))).c1
  have l56 := ((B37.out.al (.cells #[.bool false, .slice f1 0 g1, .slice (some ⟨b45, ob45, none⟩) 1 g2] 25))).c2
  go_wp2_with fail
  obtain ⟨wo57, hwo57⟩ : ∃ wo57, wo57 = (v3.alloc (.cells #[.bool false, .slice f1 0 g1, .slice (some ⟨b45, ob45, none⟩) 1 g2] 25)) := ⟨_, rfl⟩
  rw [← hwo57]
  have z58 : v3.heap.size + 1 ≤ wo57.heap.size := by rw [hwo57]; simp only [World.size_alloc]; omega
  have B59 : Hid (Abx wo57 (w.heap.size) (.bool c1) (.slice sa1 sz1.length sc1) (.slice da1 dz1.length dc1)) := by rw [hwo57]; exact (B36.out.al (.cells #[.bool false, .slice f1 0 g1, .slice (some ⟨b45, ob45, none⟩) 1 g2] 25))
  have B60 : Hid (Abx wo57 (w.heap.size + 1) (.bool c2) (.slice sa2 sz2.length sc2) (.slice da2 dz2.length dc2)) := by rw [hwo57]; exact (B37.out.al (.cells #[.bool false, .slice f1 0 g1, .slice (some ⟨b45, ob45, none⟩) 1 g2] 25))
  have B61 : Hid (Abx wo57 (v3.heap.size) (.bool false) (.slice f1 0 g1) (.slice (some ⟨b45, ob45, none⟩) 1 g2)) := by rw [hwo57]; exact n46
  have L62 : Hid (MidC (v2.heap.size) (v3.heap.size) wo57 (f1) ([]) (g1)) := by rw [hwo57]; exact (L43.out.al (by omega) (.cells #[.bool false, .slice f1 0 g1, .slice (some ⟨b45, ob45, none⟩) 1 g2] 25))
  have L63 : Hid (MidC (v2.heap.size) (v3.heap.size) wo57 (some ⟨b45, ob45, none⟩) ([2]) (g2)) := by rw [hwo57]; exact (L44.out.al (by omega) (.cells #[.bool false, .slice f1 0 g1, .slice (some ⟨b45, ob45, none⟩) 1 g2] 25))
  have hb64 : Hid (Below w.heap.size w wo57) := by rw [hwo57]; exact (hb42.out.alloc (by omega) (.cells #[.bool false, .slice f1 0 g1, .slice (some ⟨b45, ob45, none⟩) 1 g2] 25))
  have zwo57 : w.heap.size ≤ wo57.heap.size := hb64.out.size
  clear hwo57 n46 l47 l48 l49 l50 l51 l52 l53 l54 l55 l56 hb42 B36 B37 L43 L44
  clear L62 L63 B61
  refine (ints_any sa1 sc1 sz1 sa2 sc2 sz2 x11 _ _ ((HI1.out.1.1.below hb64.out).mono hb64.out.size) ((HI2.out.1.1.below hb64.out).mono hb64.out.size)).mono ?_
  rintro e v4 ⟨rfl, hB⟩
  have z65 : wo57.heap.size ≤ v4.heap.size := hB.size
  have B66 : Hid (Abx v4 (w.heap.size) (.bool c1) (.slice sa1 sz1.length sc1) (.slice da1 dz1.length dc1)) := B59.out.go hB
  have B67 : Hid (Abx v4 (w.heap.size + 1) (.bool c2) (.slice sa2 sz2.length sc2) (.slice da2 dz2.length dc2)) := B60.out.go hB
  have hb68 : Hid (Below w.heap.size w v4) := hb64.out.trans (hB.mono hb64.out.size)
  clear hB hb64 B59 B60
  rw [eqB_true ES.out]
  have l69 := (B66.out).c0
  have l70 := (B66.out).c1
  have l71 := (B66.out).c2
  go_wp2_with fail
  clear l69 l70 l71
  refine (check_ok c1 sa1 sc1 sz1 da1 dc1 dz1 x11 x12 _ ((HI1.out.1.1.below hb68.out).mono hb68.out.size) ((HI1.out.2.1.1.below hb68.out).mono hb68.out.size) F1.out).mono ?_
  rintro e v5 ⟨rfl, hB⟩
  have z72 : v4.heap.size ≤ v5.heap.size := hB.size
  have B73 : Hid (Abx v5 (w.heap.size) (.bool c1) (.slice sa1 sz1.length sc1) (.slice da1 dz1.length dc1)) := B66.out.go hB
  have B74 : Hid (Abx v5 (w.heap.size + 1) (.bool c2) (.slice sa2 sz2.length sc2) (.slice da2 dz2.length dc2)) := B67.out.go hB
  have hb75 : Hid (Below w.heap.size w v5) := hb68.out.trans (hB.mono hb68.out.size)
  clear hB hb68 B66 B67
  have l76 := (B74.out).c0
  have l77 := (B74.out).c1
  have l78 := (B74.out).c2
  go_wp2_with fail
  clear l76 l77 l78
  refine (check_ok c2 sa2 sc2 sz2 da2 dc2 dz2 x21 x22 _ ((HI2.out.1.1.below hb75.out).mono hb75.out.size) ((HI2.out.2.1.1.below hb75.out).mono hb75.out.size) F2.out).mono ?_
  rintro e v6 ⟨rfl, hB⟩
  have z79 : v5.heap.size ≤ v6.heap.size := hB.size
  have B80 : Hid (Abx v6 (w.heap.size) (.bool c1) (.slice sa1 sz1.length sc1) (.slice da1 dz1.length dc1)) := B73.out.go hB
  have B81 : Hid (Abx v6 (w.heap.size + 1) (.bool c2) (.slice sa2 sz2.length sc2) (.slice da2 dz2.length dc2)) := B74.out.go hB
  have hb82 : Hid (Below w.heap.size w v6) := hb75.out.trans (hB.mono hb75.out.size)
  clear hB hb75 B73 B74
  have l83 := (B80.out).c0
  have l84 := (B80.out).c1
  have l85 := (B80.out).c2
  have l86 := (B81.out).c0
  have l87 := (B81.out).c1
  have l88 := (B81.out).c2
  go_wp2_with fail
  clear l83 l84 l85 l86 l87 l88
  refine (niw_no f g c1 sa1 sc1 sz1 sz1.length rfl da1 dc1 dz1 dz1.length rfl c2 sa2 sc2 sz2 sz2.length rfl da2 dc2 dz2 dz2.length rfl _ hf hg x11 x12 ((HI1.out.1.below hb82.out).mono hb82.out.size) ((HI1.out.2.1.1.below hb82.out).mono hb82.out.size) HI1.out.2.2.2 x21 x22 ((HI2.out.1.below hb82.out).mono hb82.out.size) ((HI2.out.2.1.1.below hb82.out).mono hb82.out.size) HI2.out.2.2.2 HNi E1 HE1.out).mono ?_
  rintro e v7 ⟨xa1, xc1, ya1, yc1, rfl, hB⟩
  have z89 : v6.heap.size ≤ v7.heap.size := hB.size
  have B90 : Hid (Abx v7 (w.heap.size) (.bool c1) (.slice sa1 sz1.length sc1) (.slice da1 dz1.length dc1)) := B80.out.go hB
  have B91 : Hid (Abx v7 (w.heap.size + 1) (.bool c2) (.slice sa2 sz2.length sc2) (.slice da2 dz2.length dc2)) := B81.out.go hB
  have hb92 : Hid (Below w.heap.size w v7) := hb82.out.trans (hB.mono hb82.out.size)
  clear hB hb82 B80 B81
  have n93 := Abx.new v7 (.bool false) (.slice xa1 0 xc1) (.slice ya1 0 yc1)
  have l94 := ((B90.out.al (.cells #[.bool false, .slice xa1 0 xc1, .slice ya1 0 yc1] 25))).c0
  have l95 := ((B90.out.al (.cells #[.bool false, .slice xa1 0 xc1, .slice ya1 0 yc1] 25))).c1
  have l96 := ((B90.out.al (.cells #[.bool false, .slice xa1 0 xc1, .slice ya1 0 yc1] 25))).c2
  have l97 := ((B91.out.al (.cells #[.bool false, .slice xa1 0 xc1, .slice ya1 0 yc1] 25))).c0
  have l98 := ((B91.out.al (.cells #[.bool false, .slice xa1 0 xc1, .slice ya1 0 yc1] 25))).c1
  have l99 := ((B91.out.al (.cells #[.bool false, .slice xa1 0 xc1, .slice ya1 0 yc1] 25))).c2
  go_wp2_with fail
  obtain ⟨wo100, hwo100⟩ : ∃ wo100, wo100 = (v7.alloc (.cells #[.bool false, .slice xa1 0 xc1, .slice ya1 0 yc1] 25)) := ⟨_, rfl⟩
  rw [← hwo100]
  have z101 : v7.heap.size + 1 ≤ wo100.heap.size := by rw [hwo100]; simp only [World.size_alloc]; omega
  have B102 : Hid (Abx wo100 (w.heap.size) (.bool c1) (.slice sa1 sz1.length sc1) (.slice da1 dz1.length dc1)) := by rw [hwo100]; exact (B90.out.al (.cells #[.bool false, .slice xa1 0 xc1, .slice ya1 0 yc1] 25))
  have B103 : Hid (Abx wo100 (w.heap.size + 1) (.bool c2) (.slice sa2 sz2.length sc2) (.slice da2 dz2.length dc2)) := by rw [hwo100]; exact (B91.out.al (.cells #[.bool false, .slice xa1 0 xc1, .slice ya1 0 yc1] 25))
  have B104 : Hid (Abx wo100 (v7.heap.size) (.bool false) (.slice xa1 0 xc1) (.slice ya1 0 yc1)) := by rw [hwo100]; exact n93
  have hb105 : Hid (Below w.heap.size w wo100) := by rw [hwo100]; exact (hb92.out.alloc (by omega) (.cells #[.bool false, .slice xa1 0 xc1, .slice ya1 0 yc1] 25))
  have zwo100 : w.heap.size ≤ wo100.heap.size := hb105.out.size
  clear hwo100 n93 l94 l95 l96 l97 l98 l99 hb92 B90 B91
  refine (c2w_no H2 g c1 sa1 sc1 sz1 sz1.length rfl da1 dc1 dz1 dz1.length rfl c2 sa2 sc2 sz2 sz2.length rfl da2 dc2 dz2 dz2.length rfl _ hg x11 x12 ((HI1.out.1.1.below hb105.out).mono hb105.out.size) ((HI1.out.2.1.1.below hb105.out).mono hb105.out.size) HI1.out.2.2.2 x21 x22 ((HI2.out.1.1.below hb105.out).mono hb105.out.size) ((HI2.out.2.1.1.below hb105.out).mono hb105.out.size) HI2.out.2.2.2 E2 HE2.out).mono ?_
  rintro e v8 ⟨xa2, xc2, ya2, yc2, rfl, hB⟩
  have z106 : wo100.heap.size ≤ v8.heap.size := hB.size
  have B107 : Hid (Abx v8 (w.heap.size) (.bool c1) (.slice sa1 sz1.length sc1) (.slice da1 dz1.length dc1)) := B102.out.go hB
  have B108 : Hid (Abx v8 (w.heap.size + 1) (.bool c2) (.slice sa2 sz2.length sc2) (.slice da2 dz2.length dc2)) := B103.out.go hB
  have B109 : Hid (Abx v8 (v7.heap.size) (.bool false) (.slice xa1 0 xc1) (.slice ya1 0 yc1)) := B104.out.go hB
  have hb110 : Hid (Below w.heap.size w v8) := hb105.out.trans (hB.mono hb105.out.size)
  clear hB hb105 B102 B103 B104
  have n111 := Abx.new v8 (.bool false) (.slice xa2 0 xc2) (.slice ya2 0 yc2)
  go_wp2_with fail
  obtain ⟨wo112, hwo112⟩ : ∃ wo112, wo112 = (v8.alloc (.cells #[.bool false, .slice xa2 0 xc2, .slice ya2 0 yc2] 25)) := ⟨_, rfl⟩
  rw [← hwo112]
  have z113 : v8.heap.size + 1 ≤ wo112.heap.size := by rw [hwo112]; simp only [World.size_alloc]; omega
  have B114 : Hid (Abx wo112 (w.heap.size) (.bool c1) (.slice sa1 sz1.length sc1) (.slice da1 dz1.length dc1)) := by rw [hwo112]; exact (B107.out.al (.cells #[.bool false, .slice xa2 0 xc2, .slice ya2 0 yc2] 25))
  have B115 : Hid (Abx wo112 (w.heap.size + 1) (.bool c2) (.slice sa2 sz2.length sc2) (.slice da2 dz2.length dc2)) := by rw [hwo112]; exact (B108.out.al (.cells #[.bool false, .slice xa2 0 xc2, .slice ya2 0 yc2] 25))
  have B116 : Hid (Abx wo112 (v7.heap.size) (.bool false) (.slice xa1 0 xc1) (.slice ya1 0 yc1)) := by rw [hwo112]; exact (B109.out.al (.cells #[.bool false, .slice xa2 0 xc2, .slice ya2 0 yc2] 25))
  have B117 : Hid (Abx wo112 (v8.heap.size) (.bool false) (.slice xa2 0 xc2) (.slice ya2 0 yc2)) := by rw [hwo112]; exact n111
  have hb118 : Hid (Below w.heap.size w wo112) := by rw [hwo112]; exact (hb110.out.alloc (by omega) (.cells #[.bool false, .slice xa2 0 xc2, .slice ya2 0 yc2] 25))
  have zwo112 : w.heap.size ≤ wo112.heap.size := hb118.out.size
  clear hwo112 n111 hb110 B107 B108 B109
  go_ret
  exact ⟨rfl, hb118.out⟩
set_option maxRecDepth 100000 in
set_option maxHeartbeats 8000000 in
theorem lines_r (HNi : CNi) (H2 : C2d) (HRd : CRd) (f g : Int) (hf : In64 f) (hg : In64 g) (c1 : Bool) (sa1 : Option Addr) (sc1 : Nat) (sz1 : List Int) (da1 : Option Addr) (dc1 : Nat) (dz1 : List Int) (c2 : Bool) (sa2 : Option Addr) (sc2 : Nat) (sz2 : List Int) (da2 : Option Addr) (dc2 : Nat) (dz2 : List Int) (w : World) (w8 : IsArrD w sa1 sz1 sc1 da1 dz1 dc1) (w9 : IsArrD w sa2 sz2 sc2 da2 dz2 dc2) (F1 : Hid (flawE c1 sz1 dz1 = 0)) (F2 : Hid (flawE c2 sz2 dz2 = 0)) (F3 : Hid (sz1.length = 1)) (ES : Hid (sz1 = sz2)) (Q : Hid (e2E g c1 sz1 dz1 c2 sz2 dz2 = 0)) (Q2 : ∀ D0, e2V g c1 sz1 dz1 c2 sz2 dz2 = D0 → rdE f 0 false sz1 D0 ≠ 0) :
    Calls Try.prog 6 #[.int .i64 f, .int .i64 g, .agg #[.bool c1, .slice sa1 sz1.length sc1, .slice da1 dz1.length dc1], .agg #[.bool c2, .slice sa2 sz2.length sc2, .slice da2 dz2.length dc2]] w fun e w' => e = .returned (.bool true) ∧ Below w.heap.size w w' := by
  have t1 : ((sz1.length : Int) != 1) = false := by rw [F3.out]; rfl
  obtain ⟨D0, DD, R1, R2, R3, R4, TT, L1, L2⟩ := lines13 (f := f) (g := g) F1.out F2.out F3.out ES.out w8.2.2.2.2.2 w9.2.2.2.2.2
  have HR1 : Hid (e2V g c1 sz1 dz1 c2 sz2 dz2 = D0 ∧ shp sz1 sz2 = sz1) := R1
  have HR2 : Hid (inE f g c1 sz1 dz1 c2 sz2 dz2 = 0 ↔ e2E g c1 sz1 dz1 c2 sz2 dz2 = 0 ∧ rdE f 0 false sz1 D0 = 0) := R2
  have HR3 : Hid (inS sz1 sz2 = [] ∧ inD f g c1 sz1 dz1 c2 sz2 dz2 = DD) := R3
  have HR4 : Hid (xout (0 : Int).toNat sz1 = [] ∧ rdD f sz1 D0 (0 : Int).toNat = DD) := R4
  have HTT : Hid (∀ j, In64 (nth D0 j)) := TT
  clear R1 R2 R3 R4 TT
  obtain ⟨E1, hE1⟩ : ∃ E, E = inE f g c1 sz1 dz1 c2 sz2 dz2 := ⟨_, rfl⟩
  have HE1 : Hid (inE f g c1 sz1 dz1 c2 sz2 dz2 = E1 ∧ E1 ≠ 0) := ⟨hE1.symm, by rw [hE1]; exact fun h => Q2 _ HR1.out.1 (HR2.out.1 h).2⟩
  clear hE1
  obtain ⟨E3, hE3⟩ : ∃ E, E = rdE f 0 false sz1 D0 := ⟨_, rfl⟩
  have HE3 : Hid (rdE f 0 false sz1 D0 = E3 ∧ E3 ≠ 0) := ⟨hE3.symm, by rw [hE3]; exact Q2 _ HR1.out.1⟩
  clear hE3
  have HQ : Hid (e2E g c1 sz1 dz1 c2 sz2 dz2 = 0 ∧ shp sz1 sz2 = sz1 ∧ e2V g c1 sz1 dz1 c2 sz2 dz2 = D0) := ⟨Q.out, HR1.out.2, HR1.out.1⟩
  clear Q2
  obtain ⟨x11, x12, x3, x4, s64, T⟩ := w8
  have HI1 : Hid (IsC w.heap.size w sa1 sz1 sc1 ∧ IsC w.heap.size w da1 dz1 dc1 ∧ (∀ j, In64 (nth sz1 j)) ∧ ∀ j, In64 (nth dz1 j)) := ⟨x3, x4, s64, T⟩
  clear x3 x4 T s64
  obtain ⟨x21, x22, x3, x4, s64, T⟩ := w9
  have HI2 : Hid (IsC w.heap.size w sa2 sz2 sc2 ∧ IsC w.heap.size w da2 dz2 dc2 ∧ (∀ j, In64 (nth sz2 j)) ∧ ∀ j, In64 (nth dz2 j)) := ⟨x3, x4, s64, T⟩
  clear x3 x4 T s64
  have n1 := Abx.new w (.bool c1) (.slice sa1 sz1.length sc1) (.slice da1 dz1.length dc1)
  have n2 := Abx.new (w.alloc (.cells #[.bool c1, .slice sa1 sz1.length sc1, .slice da1 dz1.length dc1] 25)) (.bool c2) (.slice sa2 sz2.length sc2) (.slice da2 dz2.length dc2)
  simp only [World.size_alloc] at n2
  have n3 := lit_mid ((w.alloc (.cells #[.bool c1, .slice sa1 sz1.length sc1, .slice da1 dz1.length dc1] 25)).alloc (.cells #[.bool c2, .slice sa2 sz2.length sc2, .slice da2 dz2.length dc2] 25)) 3 [1, 2, 3] 3 rfl
  simp only [World.size_alloc, List.map_cons, List.map_nil] at n3
  go_enter Try.func6, Try.ntmps6
  go_wp2_with fail
  obtain ⟨wo4, hwo4⟩ : ∃ wo4, wo4 = (((w.alloc (.cells #[.bool c1, .slice sa1 sz1.length sc1, .slice da1 dz1.length dc1] 25)).alloc (.cells #[.bool c2, .slice sa2 sz2.length sc2, .slice da2 dz2.length dc2] 25)).alloc (.cells #[.int .i64 1, .int .i64 2, .int .i64 3] 3)) := ⟨_, rfl⟩
  rw [← hwo4]
  have z5 : w.heap.size + 1 + 1 + 1 ≤ wo4.heap.size := by rw [hwo4]; simp only [World.size_alloc]; omega
  have B6 : Hid (Abx wo4 (w.heap.size) (.bool c1) (.slice sa1 sz1.length sc1) (.slice da1 dz1.length dc1)) := by rw [hwo4]; exact ((n1.al (.cells #[.bool c2, .slice sa2 sz2.length sc2, .slice da2 dz2.length dc2] 25)).al (.cells #[.int .i64 1, .int .i64 2, .int .i64 3] 3))
  have B7 : Hid (Abx wo4 (w.heap.size + 1) (.bool c2) (.slice sa2 sz2.length sc2) (.slice da2 dz2.length dc2)) := by rw [hwo4]; exact (n2.al (.cells #[.int .i64 1, .int .i64 2, .int .i64 3] 3))
  have L8 : Hid (MidC (w.heap.size + 1 + 1) (w.heap.size + 1 + 1 + 1) wo4 (some ⟨w.heap.size + 1 + 1, 0, none⟩) ([1, 2, 3]) (3)) := by rw [hwo4]; exact n3
  have hb9 : Hid (Below w.heap.size w wo4) := by rw [hwo4]; exact ((((Below.refl w.heap.size w).alloc (by omega) (.cells #[.bool c1, .slice sa1 sz1.length sc1, .slice da1 dz1.length dc1] 25)).alloc (by simp only [World.size_alloc]; omega) (.cells #[.bool c2, .slice sa2 sz2.length sc2, .slice da2 dz2.length dc2] 25)).alloc (by simp only [World.size_alloc]; omega) (.cells #[.int .i64 1, .int .i64 2, .int .i64 3] 3))
  have zwo4 : w.heap.size ≤ wo4.heap.size := hb9.out.size
  clear hwo4 n1 n2 n3
  refine (vec_c (some ⟨w.heap.size + 1 + 1, 0, none⟩) 3 [1, 2, 3] (by simp) _ (L8.out.is (by omega)).1).mono ?_
  rintro e v1 ⟨vap, vcp, gap, gcp, rfl, hVp, hGp, hB⟩
  have z10 : wo4.heap.size ≤ v1.heap.size := hB.size
  have B11 : Hid (Abx v1 (w.heap.size) (.bool c1) (.slice sa1 sz1.length sc1) (.slice da1 dz1.length dc1)) := B6.out.go hB
  have B12 : Hid (Abx v1 (w.heap.size + 1) (.bool c2) (.slice sa2 sz2.length sc2) (.slice da2 dz2.length dc2)) := B7.out.go hB
  have L13 : Hid (MidC (w.heap.size + 1 + 1) (w.heap.size + 1 + 1 + 1) v1 (some ⟨w.heap.size + 1 + 1, 0, none⟩) ([1, 2, 3]) (3)) := L8.out.go (by omega) hB
  have hb14 : Hid (Below w.heap.size w v1) := hb9.out.trans (hB.mono hb9.out.size)
  have L15 : Hid (MidC (wo4.heap.size) (v1.heap.size) v1 (vap) ([(3 : Int)]) (vcp)) := hVp.midc
  have L16 : Hid (MidC (wo4.heap.size) (v1.heap.size) v1 (gap) ([1, 2, 3]) (gcp)) := hGp.midc
  clear hB hb9 B6 B7 L8 hVp hGp
  clear L13
  have n17 := lit_mid v1 3 [1, 0, 3] 3 rfl
  simp only [List.map_cons, List.map_nil] at n17
  go_wp2_with fail
  obtain ⟨wo18, hwo18⟩ : ∃ wo18, wo18 = (v1.alloc (.cells #[.int .i64 1, .int .i64 0, .int .i64 3] 3)) := ⟨_, rfl⟩
  rw [← hwo18]
  have z19 : v1.heap.size + 1 ≤ wo18.heap.size := by rw [hwo18]; simp only [World.size_alloc]; omega
  have B20 : Hid (Abx wo18 (w.heap.size) (.bool c1) (.slice sa1 sz1.length sc1) (.slice da1 dz1.length dc1)) := by rw [hwo18]; exact (B11.out.al (.cells #[.int .i64 1, .int .i64 0, .int .i64 3] 3))
  have B21 : Hid (Abx wo18 (w.heap.size + 1) (.bool c2) (.slice sa2 sz2.length sc2) (.slice da2 dz2.length dc2)) := by rw [hwo18]; exact (B12.out.al (.cells #[.int .i64 1, .int .i64 0, .int .i64 3] 3))
  have L22 : Hid (MidC (wo4.heap.size) (v1.heap.size) wo18 (vap) ([(3 : Int)]) (vcp)) := by rw [hwo18]; exact (L15.out.al (by omega) (.cells #[.int .i64 1, .int .i64 0, .int .i64 3] 3))
  have L23 : Hid (MidC (wo4.heap.size) (v1.heap.size) wo18 (gap) ([1, 2, 3]) (gcp)) := by rw [hwo18]; exact (L16.out.al (by omega) (.cells #[.int .i64 1, .int .i64 0, .int .i64 3] 3))
  have L24 : Hid (MidC (v1.heap.size) (v1.heap.size + 1) wo18 (some ⟨v1.heap.size, 0, none⟩) ([1, 0, 3]) (3)) := by rw [hwo18]; exact n17
  have hb25 : Hid (Below w.heap.size w wo18) := by rw [hwo18]; exact (hb14.out.alloc (by omega) (.cells #[.int .i64 1, .int .i64 0, .int .i64 3] 3))
  have zwo18 : w.heap.size ≤ wo18.heap.size := hb25.out.size
  clear hwo18 n17 hb14 B11 B12 L15 L16
  refine (vec_c (some ⟨v1.heap.size, 0, none⟩) 3 [1, 0, 3] (by simp) _ (L24.out.is (by omega)).1).mono ?_
  rintro e v2 ⟨vaq, vcq, gaq, gcq, rfl, hVq, hGq, hB⟩
  have z26 : wo18.heap.size ≤ v2.heap.size := hB.size
  have B27 : Hid (Abx v2 (w.heap.size) (.bool c1) (.slice sa1 sz1.length sc1) (.slice da1 dz1.length dc1)) := B20.out.go hB
  have B28 : Hid (Abx v2 (w.heap.size + 1) (.bool c2) (.slice sa2 sz2.length sc2) (.slice da2 dz2.length dc2)) := B21.out.go hB
  have L29 : Hid (MidC (wo4.heap.size) (v1.heap.size) v2 (vap) ([(3 : Int)]) (vcp)) := L22.out.go (by omega) hB
  have L30 : Hid (MidC (wo4.heap.size) (v1.heap.size) v2 (gap) ([1, 2, 3]) (gcp)) := L23.out.go (by omega) hB
  have L31 : Hid (MidC (v1.heap.size) (v1.heap.size + 1) v2 (some ⟨v1.heap.size, 0, none⟩) ([1, 0, 3]) (3)) := L24.out.go (by omega) hB
  have hb32 : Hid (Below w.heap.size w v2) := hb25.out.trans (hB.mono hb25.out.size)
  have L33 : Hid (MidC (wo18.heap.size) (v2.heap.size) v2 (vaq) ([(3 : Int)]) (vcq)) := hVq.midc
  have L34 : Hid (MidC (wo18.heap.size) (v2.heap.size) v2 (gaq) ([1, 0, 3]) (gcq)) := hGq.midc
  clear hB hb25 B20 B21 L22 L23 L24 hVq hGq
  clear L31
  go_wp2_with fail
  refine (niw_ok 1 8 false vap vcp [(3 : Int)] 1 rfl gap gcp [1, 2, 3] 3 rfl false vaq vcq [(3 : Int)] 1 rfl gaq gcq [1, 0, 3] 3 rfl _ (by unfold In64; decide) (by unfold In64; decide) (by decide) (by decide) (L29.out.is (by omega)) (L30.out.is (by omega)).1 (lit12 (by decide)) (by decide) (by decide) (L33.out.is (by omega)) (L34.out.is (by omega)).1 (lit12 (by decide)) [] [2] HNi (by show inE 1 8 false [(3 : Int)] [1, 2, 3] false [(3 : Int)] [1, 0, 3] = 0 ∧ inS [(3 : Int)] [(3 : Int)] = [] ∧ inD 1 8 false [(3 : Int)] [1, 2, 3] false [(3 : Int)] [1, 0, 3] = [2]; decide +kernel)).mono ?_
  rintro e v3 ⟨f1, g1, f2, g2, rfl, hX0, hY0, hB⟩
  have z35 : v2.heap.size ≤ v3.heap.size := hB.size
  have B36 : Hid (Abx v3 (w.heap.size) (.bool c1) (.slice sa1 sz1.length sc1) (.slice da1 dz1.length dc1)) := B27.out.go hB
  have B37 : Hid (Abx v3 (w.heap.size + 1) (.bool c2) (.slice sa2 sz2.length sc2) (.slice da2 dz2.length dc2)) := B28.out.go hB
  have L38 : Hid (MidC (wo4.heap.size) (v1.heap.size) v3 (vap) ([(3 : Int)]) (vcp)) := L29.out.go (by omega) hB
  have L39 : Hid (MidC (wo4.heap.size) (v1.heap.size) v3 (gap) ([1, 2, 3]) (gcp)) := L30.out.go (by omega) hB
  have L40 : Hid (MidC (wo18.heap.size) (v2.heap.size) v3 (vaq) ([(3 : Int)]) (vcq)) := L33.out.go (by omega) hB
  have L41 : Hid (MidC (wo18.heap.size) (v2.heap.size) v3 (gaq) ([1, 0, 3]) (gcq)) := L34.out.go (by omega) hB
  have hb42 : Hid (Below w.heap.size w v3) := hb32.out.trans (hB.mono hb32.out.size)
  have L43 : Hid (MidC (v2.heap.size) (v3.heap.size) v3 (f1) ([]) (g1)) := hX0.midc
  have L44 : Hid (MidC (v2.heap.size) (v3.heap.size) v3 (f2) ([2]) (g2)) := hY0.midc
  clear hB hb32 B27 B28 L29 L30 L33 L34 hX0 hY0
  clear L38 L39 L40 L41
  obtain ⟨b45, ob45, rfl, _, _, _, _⟩ := L44.out.at (i := 0) (by decide)
  have n46 := Abx.new v3 (.bool false) (.slice f1 0 g1) (.slice (some ⟨b45, ob45, none⟩) 1 g2)
  have l47 := (n46).c0
  have l48 := (n46).c1
  have l49 := (n46).c2
  obtain ⟨_, _, l50e, _, _, l50, _⟩ := ((L44.out.al (by omega) (.cells #[.bool false, .slice f1 0 g1, .slice (some ⟨b45, ob45, none⟩) 1 g2] 25))).at (i := 0) (by decide)
  cases l50e
  try simp only [Nat.add_zero] at l50
  have l51 := ((B36.out.al (.cells #[.bool false, .slice f1 0 g1, .slice (some ⟨b45, ob45, none⟩) 1 g2] 25))).c0
  have l52 := ((B36.out.al (.cells #[.bool false, .slice f1 0 g1, .slice (some ⟨b45, ob45, none⟩) 1 g2] 25))).c1
  have l53 := ((B36.out.al (.cells #[.bool false, .slice f1 0 g1, .slice (some ⟨b45, ob45, none⟩) 1 g2] 25))).c2
  have l54 := ((B37.out.al (.cells #[.bool false, .slice f1 0 g1, .slice (some ⟨b45, ob45, none⟩) 1 g2] 25))).c0
  have l55 := ((B37.out.al (.cells #[.bool false, .slice f1 0 g1, .slice (some ⟨b45, ob45, none⟩) 1 g2] 25))).c1
  have l56 := ((B37.out.al (.cells #[.bool false, .slice f1 0 g1, .slice (some ⟨b45, ob45, none⟩) 1 g2] 25))).c2
  go_wp2_with fail
  obtain ⟨wo57, hwo57⟩ : ∃ wo57, wo57 = (v3.alloc (.cells #[.bool false, .slice f1 0 g1, .slice (some ⟨b45, ob45, none⟩) 1 g2] 25)) := ⟨_, rfl⟩
  rw [← hwo57]
  have z58 : v3.heap.size + 1 ≤ wo57.heap.size := by rw [hwo57]; simp only [World.size_alloc]; omega
  have B59 : Hid (Abx wo57 (w.heap.size) (.bool c1) (.slice sa1 sz1.length sc1) (.slice da1 dz1.length dc1)) := by rw [hwo57]; exact (B36.out.al (.cells #[.bool false, .slice f1 0 g1, .slice (some ⟨b45, ob45, none⟩) 1 g2] 25))
  have B60 : Hid (Abx wo57 (w.heap.size + 1) (.bool c2) (.slice sa2 sz2.length sc2) (.slice da2 dz2.length dc2)) := by rw [hwo57]; exact (B37.out.al (.cells #[.bool false, .slice f1 0 g1, .slice (some ⟨b45, ob45, none⟩) 1 g2] 25))
  have B61 : Hid (Abx wo57 (v3.heap.size) (.bool false) (.slice f1 0 g1) (.slice (some ⟨b45, ob45, none⟩) 1 g2)) := by rw [hwo57]; exact n46
  have L62 : Hid (MidC (v2.heap.size) (v3.heap.size) wo57 (f1) ([]) (g1)) := by rw [hwo57]; exact (L43.out.al (by omega) (.cells #[.bool false, .slice f1 0 g1, .slice (some ⟨b45, ob45, none⟩) 1 g2] 25))
  have L63 : Hid (MidC (v2.heap.size) (v3.heap.size) wo57 (some ⟨b45, ob45, none⟩) ([2]) (g2)) := by rw [hwo57]; exact (L44.out.al (by omega) (.cells #[.bool false, .slice f1 0 g1, .slice (some ⟨b45, ob45, none⟩) 1 g2] 25))
  have hb64 : Hid (Below w.heap.size w wo57) := by rw [hwo57]; exact (hb42.out.alloc (by omega) (.cells #[.bool false, .slice f1 0 g1, .slice (some ⟨b45, ob45, none⟩) 1 g2] 25))
  have zwo57 : w.heap.size ≤ wo57.heap.size := hb64.out.size
  clear hwo57 n46 l47 l48 l49 l50 l51 l52 l53 l54 l55 l56 hb42 B36 B37 L43 L44
  clear L62 L63 B61
  refine (ints_any sa1 sc1 sz1 sa2 sc2 sz2 x11 _ _ ((HI1.out.1.1.below hb64.out).mono hb64.out.size) ((HI2.out.1.1.below hb64.out).mono hb64.out.size)).mono ?_
  rintro e v4 ⟨rfl, hB⟩
  have z65 : wo57.heap.size ≤ v4.heap.size := hB.size
  have B66 : Hid (Abx v4 (w.heap.size) (.bool c1) (.slice sa1 sz1.length sc1) (.slice da1 dz1.length dc1)) := B59.out.go hB
  have B67 : Hid (Abx v4 (w.heap.size + 1) (.bool c2) (.slice sa2 sz2.length sc2) (.slice da2 dz2.length dc2)) := B60.out.go hB
  have hb68 : Hid (Below w.heap.size w v4) := hb64.out.trans (hB.mono hb64.out.size)
  clear hB hb64 B59 B60
  rw [eqB_true ES.out]
  have l69 := (B66.out).c0
  have l70 := (B66.out).c1
  have l71 := (B66.out).c2
  go_wp2_with fail
  clear l69 l70 l71
  refine (check_ok c1 sa1 sc1 sz1 da1 dc1 dz1 x11 x12 _ ((HI1.out.1.1.below hb68.out).mono hb68.out.size) ((HI1.out.2.1.1.below hb68.out).mono hb68.out.size) F1.out).mono ?_
  rintro e v5 ⟨rfl, hB⟩
  have z72 : v4.heap.size ≤ v5.heap.size := hB.size
  have B73 : Hid (Abx v5 (w.heap.size) (.bool c1) (.slice sa1 sz1.length sc1) (.slice da1 dz1.length dc1)) := B66.out.go hB
  have B74 : Hid (Abx v5 (w.heap.size + 1) (.bool c2) (.slice sa2 sz2.length sc2) (.slice da2 dz2.length dc2)) := B67.out.go hB
  have hb75 : Hid (Below w.heap.size w v5) := hb68.out.trans (hB.mono hb68.out.size)
  clear hB hb68 B66 B67
  have l76 := (B74.out).c0
  have l77 := (B74.out).c1
  have l78 := (B74.out).c2
  go_wp2_with fail
  clear l76 l77 l78
  refine (check_ok c2 sa2 sc2 sz2 da2 dc2 dz2 x21 x22 _ ((HI2.out.1.1.below hb75.out).mono hb75.out.size) ((HI2.out.2.1.1.below hb75.out).mono hb75.out.size) F2.out).mono ?_
  rintro e v6 ⟨rfl, hB⟩
  have z79 : v5.heap.size ≤ v6.heap.size := hB.size
  have B80 : Hid (Abx v6 (w.heap.size) (.bool c1) (.slice sa1 sz1.length sc1) (.slice da1 dz1.length dc1)) := B73.out.go hB
  have B81 : Hid (Abx v6 (w.heap.size + 1) (.bool c2) (.slice sa2 sz2.length sc2) (.slice da2 dz2.length dc2)) := B74.out.go hB
  have hb82 : Hid (Below w.heap.size w v6) := hb75.out.trans (hB.mono hb75.out.size)
  clear hB hb75 B73 B74
  have l83 := (B80.out).c0
  have l84 := (B80.out).c1
  have l85 := (B80.out).c2
  have l86 := (B81.out).c0
  have l87 := (B81.out).c1
  have l88 := (B81.out).c2
  go_wp2_with fail
  clear l83 l84 l85 l86 l87 l88
  refine (niw_no f g c1 sa1 sc1 sz1 sz1.length rfl da1 dc1 dz1 dz1.length rfl c2 sa2 sc2 sz2 sz2.length rfl da2 dc2 dz2 dz2.length rfl _ hf hg x11 x12 ((HI1.out.1.below hb82.out).mono hb82.out.size) ((HI1.out.2.1.1.below hb82.out).mono hb82.out.size) HI1.out.2.2.2 x21 x22 ((HI2.out.1.below hb82.out).mono hb82.out.size) ((HI2.out.2.1.1.below hb82.out).mono hb82.out.size) HI2.out.2.2.2 HNi E1 HE1.out).mono ?_
  rintro e v7 ⟨xa1, xc1, ya1, yc1, rfl, hB⟩
  have z89 : v6.heap.size ≤ v7.heap.size := hB.size
  have B90 : Hid (Abx v7 (w.heap.size) (.bool c1) (.slice sa1 sz1.length sc1) (.slice da1 dz1.length dc1)) := B80.out.go hB
  have B91 : Hid (Abx v7 (w.heap.size + 1) (.bool c2) (.slice sa2 sz2.length sc2) (.slice da2 dz2.length dc2)) := B81.out.go hB
  have hb92 : Hid (Below w.heap.size w v7) := hb82.out.trans (hB.mono hb82.out.size)
  clear hB hb82 B80 B81
  have n93 := Abx.new v7 (.bool false) (.slice xa1 0 xc1) (.slice ya1 0 yc1)
  have l94 := ((B90.out.al (.cells #[.bool false, .slice xa1 0 xc1, .slice ya1 0 yc1] 25))).c0
  have l95 := ((B90.out.al (.cells #[.bool false, .slice xa1 0 xc1, .slice ya1 0 yc1] 25))).c1
  have l96 := ((B90.out.al (.cells #[.bool false, .slice xa1 0 xc1, .slice ya1 0 yc1] 25))).c2
  have l97 := ((B91.out.al (.cells #[.bool false, .slice xa1 0 xc1, .slice ya1 0 yc1] 25))).c0
  have l98 := ((B91.out.al (.cells #[.bool false, .slice xa1 0 xc1, .slice ya1 0 yc1] 25))).c1
  have l99 := ((B91.out.al (.cells #[.bool false, .slice xa1 0 xc1, .slice ya1 0 yc1] 25))).c2
  go_wp2_with fail
  obtain ⟨wo100, hwo100⟩ : ∃ wo100, wo100 = (v7.alloc (.cells #[.bool false, .slice xa1 0 xc1, .slice ya1 0 yc1] 25)) := ⟨_, rfl⟩
  rw [← hwo100]
  have z101 : v7.heap.size + 1 ≤ wo100.heap.size := by rw [hwo100]; simp only [World.size_alloc]; omega
  have B102 : Hid (Abx wo100 (w.heap.size) (.bool c1) (.slice sa1 sz1.length sc1) (.slice da1 dz1.length dc1)) := by rw [hwo100]; exact (B90.out.al (.cells #[.bool false, .slice xa1 0 xc1, .slice ya1 0 yc1] 25))
  have B103 : Hid (Abx wo100 (w.heap.size + 1) (.bool c2) (.slice sa2 sz2.length sc2) (.slice da2 dz2.length dc2)) := by rw [hwo100]; exact (B91.out.al (.cells #[.bool false, .slice xa1 0 xc1, .slice ya1 0 yc1] 25))
  have B104 : Hid (Abx wo100 (v7.heap.size) (.bool false) (.slice xa1 0 xc1) (.slice ya1 0 yc1)) := by rw [hwo100]; exact n93
  have hb105 : Hid (Below w.heap.size w wo100) := by rw [hwo100]; exact (hb92.out.alloc (by omega) (.cells #[.bool false, .slice xa1 0 xc1, .slice ya1 0 yc1] 25))
  have zwo100 : w.heap.size ≤ wo100.heap.size := hb105.out.size
  clear hwo100 n93 l94 l95 l96 l97 l98 l99 hb92 B90 B91
  refine (c2w_ok H2 g c1 sa1 sc1 sz1 sz1.length rfl da1 dc1 dz1 dz1.length rfl c2 sa2 sc2 sz2 sz2.length rfl da2 dc2 dz2 dz2.length rfl _ hg x11 x12 ((HI1.out.1.1.below hb105.out).mono hb105.out.size) ((HI1.out.2.1.1.below hb105.out).mono hb105.out.size) HI1.out.2.2.2 x21 x22 ((HI2.out.1.1.below hb105.out).mono hb105.out.size) ((HI2.out.2.1.1.below hb105.out).mono hb105.out.size) HI2.out.2.2.2 sz1 D0 HQ.out).mono ?_
  rintro e v8 ⟨xa2, xc2, ya2, yc2, rfl, hX2, hY2, hB⟩
  have z106 : wo100.heap.size ≤ v8.heap.size := hB.size
  have B107 : Hid (Abx v8 (w.heap.size) (.bool c1) (.slice sa1 sz1.length sc1) (.slice da1 dz1.length dc1)) := B102.out.go hB
  have B108 : Hid (Abx v8 (w.heap.size + 1) (.bool c2) (.slice sa2 sz2.length sc2) (.slice da2 dz2.length dc2)) := B103.out.go hB
  have B109 : Hid (Abx v8 (v7.heap.size) (.bool false) (.slice xa1 0 xc1) (.slice ya1 0 yc1)) := B104.out.go hB
  have hb110 : Hid (Below w.heap.size w v8) := hb105.out.trans (hB.mono hb105.out.size)
  have L111 : Hid (MidC (wo100.heap.size) (v8.heap.size) v8 (xa2) (sz1) (xc2)) := hX2.midc
  have L112 : Hid (MidC (wo100.heap.size) (v8.heap.size) v8 (ya2) (D0) (yc2)) := hY2.midc
  clear hB hb105 B102 B103 B104 hX2 hY2
  have n113 := Abx.new v8 (.bool false) (.slice xa2 sz1.length xc2) (.slice ya2 D0.length yc2)
  have l114 := (n113).c0
  have l115 := (n113).c1
  have l116 := (n113).c2
  go_wp2_with fail
  obtain ⟨wo117, hwo117⟩ : ∃ wo117, wo117 = (v8.alloc (.cells #[.bool false, .slice xa2 sz1.length xc2, .slice ya2 D0.length yc2] 25)) := ⟨_, rfl⟩
  rw [← hwo117]
  have z118 : v8.heap.size + 1 ≤ wo117.heap.size := by rw [hwo117]; simp only [World.size_alloc]; omega
  have B119 : Hid (Abx wo117 (w.heap.size) (.bool c1) (.slice sa1 sz1.length sc1) (.slice da1 dz1.length dc1)) := by rw [hwo117]; exact (B107.out.al (.cells #[.bool false, .slice xa2 sz1.length xc2, .slice ya2 D0.length yc2] 25))
  have B120 : Hid (Abx wo117 (w.heap.size + 1) (.bool c2) (.slice sa2 sz2.length sc2) (.slice da2 dz2.length dc2)) := by rw [hwo117]; exact (B108.out.al (.cells #[.bool false, .slice xa2 sz1.length xc2, .slice ya2 D0.length yc2] 25))
  have B121 : Hid (Abx wo117 (v7.heap.size) (.bool false) (.slice xa1 0 xc1) (.slice ya1 0 yc1)) := by rw [hwo117]; exact (B109.out.al (.cells #[.bool false, .slice xa2 sz1.length xc2, .slice ya2 D0.length yc2] 25))
  have B122 : Hid (Abx wo117 (v8.heap.size) (.bool false) (.slice xa2 sz1.length xc2) (.slice ya2 D0.length yc2)) := by rw [hwo117]; exact n113
  have L123 : Hid (MidC (wo100.heap.size) (v8.heap.size) wo117 (xa2) (sz1) (xc2)) := by rw [hwo117]; exact (L111.out.al (by omega) (.cells #[.bool false, .slice xa2 sz1.length xc2, .slice ya2 D0.length yc2] 25))
  have L124 : Hid (MidC (wo100.heap.size) (v8.heap.size) wo117 (ya2) (D0) (yc2)) := by rw [hwo117]; exact (L112.out.al (by omega) (.cells #[.bool false, .slice xa2 sz1.length xc2, .slice ya2 D0.length yc2] 25))
  have hb125 : Hid (Below w.heap.size w wo117) := by rw [hwo117]; exact (hb110.out.alloc (by omega) (.cells #[.bool false, .slice xa2 sz1.length xc2, .slice ya2 D0.length yc2] 25))
  have zwo117 : w.heap.size ≤ wo117.heap.size := hb125.out.size
  clear hwo117 n113 l114 l115 l116 hb110 B107 B108 B109 L111 L112
  refine (rdw_no f 0 false xa2 xc2 sz1 sz1.length rfl ya2 yc2 D0 D0.length rfl _ hf (by unfold In64; decide) (by omega) (by omega) (L123.out.is (by omega)) (L124.out.is (by omega)).1 HTT.out HRd E3 HE3.out).mono ?_
  rintro e v9 ⟨xa3, xc3, ya3, yc3, rfl, hB⟩
  have z126 : wo117.heap.size ≤ v9.heap.size := hB.size
  have B127 : Hid (Abx v9 (w.heap.size) (.bool c1) (.slice sa1 sz1.length sc1) (.slice da1 dz1.length dc1)) := B119.out.go hB
  have B128 : Hid (Abx v9 (w.heap.size + 1) (.bool c2) (.slice sa2 sz2.length sc2) (.slice da2 dz2.length dc2)) := B120.out.go hB
  have B129 : Hid (Abx v9 (v7.heap.size) (.bool false) (.slice xa1 0 xc1) (.slice ya1 0 yc1)) := B121.out.go hB
  have B130 : Hid (Abx v9 (v8.heap.size) (.bool false) (.slice xa2 sz1.length xc2) (.slice ya2 D0.length yc2)) := B122.out.go hB
  have L131 : Hid (MidC (wo100.heap.size) (v8.heap.size) v9 (xa2) (sz1) (xc2)) := L123.out.go (by omega) hB
  have L132 : Hid (MidC (wo100.heap.size) (v8.heap.size) v9 (ya2) (D0) (yc2)) := L124.out.go (by omega) hB
  have hb133 : Hid (Below w.heap.size w v9) := hb125.out.trans (hB.mono hb125.out.size)
  clear hB hb125 B119 B120 B121 B122 L123 L124
  clear L131 L132
  have l134 := (B130.out).fr 0
  have l135 := (B130.out).c0
  have l136 := (B130.out).fr 1
  have l137 := (B130.out).c1
  have l138 := (B130.out).fr 2
  have l139 := (B130.out).c2
  go_wp2_with fail
  obtain ⟨wo140, hwo140⟩ : ∃ wo140, wo140 = (((v9.setCell ⟨v8.heap.size, 0, none⟩ (.bool false)).setCell ⟨v8.heap.size, 1, none⟩ (.slice xa3 0 xc3)).setCell ⟨v8.heap.size, 2, none⟩ (.slice ya3 0 yc3)) := ⟨_, rfl⟩
  rw [← hwo140]
  have z141 : v9.heap.size ≤ wo140.heap.size := by rw [hwo140]; simp only [World.size_setCell]; omega
  have B142 : Hid (Abx wo140 (w.heap.size) (.bool c1) (.slice sa1 sz1.length sc1) (.slice da1 dz1.length dc1)) := by rw [hwo140]; exact (abx_o3 B127.out (B := v8.heap.size) (by omega) (.bool false) (.slice xa3 0 xc3) (.slice ya3 0 yc3))
  have B143 : Hid (Abx wo140 (w.heap.size + 1) (.bool c2) (.slice sa2 sz2.length sc2) (.slice da2 dz2.length dc2)) := by rw [hwo140]; exact (abx_o3 B128.out (B := v8.heap.size) (by omega) (.bool false) (.slice xa3 0 xc3) (.slice ya3 0 yc3))
  have B144 : Hid (Abx wo140 (v7.heap.size) (.bool false) (.slice xa1 0 xc1) (.slice ya1 0 yc1)) := by rw [hwo140]; exact (abx_o3 B129.out (B := v8.heap.size) (by omega) (.bool false) (.slice xa3 0 xc3) (.slice ya3 0 yc3))
  have B145 : Hid (Abx wo140 (v8.heap.size) (.bool false) (.slice xa3 0 xc3) (.slice ya3 0 yc3)) := by rw [hwo140]; exact (B130.out.set3 (.bool false) (.slice xa3 0 xc3) (.slice ya3 0 yc3))
  have hb146 : Hid (Below w.heap.size w wo140) := by rw [hwo140]; exact (bel_s3 hb133.out (B := v8.heap.size) (by omega) (.bool false) (.slice xa3 0 xc3) (.slice ya3 0 yc3))
  have zwo140 : w.heap.size ≤ wo140.heap.size := hb146.out.size
  clear hwo140 l134 l135 l136 l137 l138 l139 hb133 B127 B128 B129 B130
  go_ret
  exact ⟨rfl, hb146.out⟩
set_option maxRecDepth 100000 in
set_option maxHeartbeats 8000000 in
theorem lines_ok (HNi : CNi) (H2 : C2d) (HRd : CRd) (f g : Int) (hf : In64 f) (hg : In64 g) (c1 : Bool) (sa1 : Option Addr) (sc1 : Nat) (sz1 : List Int) (da1 : Option Addr) (dc1 : Nat) (dz1 : List Int) (c2 : Bool) (sa2 : Option Addr) (sc2 : Nat) (sz2 : List Int) (da2 : Option Addr) (dc2 : Nat) (dz2 : List Int) (w : World) (w8 : IsArrD w sa1 sz1 sc1 da1 dz1 dc1) (w9 : IsArrD w sa2 sz2 sc2 da2 dz2 dc2) (F1 : Hid (flawE c1 sz1 dz1 = 0)) (F2 : Hid (flawE c2 sz2 dz2 = 0)) (F3 : Hid (sz1.length = 1)) (ES : Hid (sz1 = sz2)) (Q : Hid (e2E g c1 sz1 dz1 c2 sz2 dz2 = 0)) (Q2 : ∀ D0, e2V g c1 sz1 dz1 c2 sz2 dz2 = D0 → rdE f 0 false sz1 D0 = 0) :
    Calls Try.prog 6 #[.int .i64 f, .int .i64 g, .agg #[.bool c1, .slice sa1 sz1.length sc1, .slice da1 dz1.length dc1], .agg #[.bool c2, .slice sa2 sz2.length sc2, .slice da2 dz2.length dc2]] w fun e w' => e = .returned (.bool true) ∧ Below w.heap.size w w' := by
  have t1 : ((sz1.length : Int) != 1) = false := by rw [F3.out]; rfl
  obtain ⟨D0, DD, R1, R2, R3, R4, TT, L1, L2⟩ := lines13 (f := f) (g := g) F1.out F2.out F3.out ES.out w8.2.2.2.2.2 w9.2.2.2.2.2
  have HR1 : Hid (e2V g c1 sz1 dz1 c2 sz2 dz2 = D0 ∧ shp sz1 sz2 = sz1) := R1
  have HR2 : Hid (inE f g c1 sz1 dz1 c2 sz2 dz2 = 0 ↔ e2E g c1 sz1 dz1 c2 sz2 dz2 = 0 ∧ rdE f 0 false sz1 D0 = 0) := R2
  have HR3 : Hid (inS sz1 sz2 = [] ∧ inD f g c1 sz1 dz1 c2 sz2 dz2 = DD) := R3
  have HR4 : Hid (xout (0 : Int).toNat sz1 = [] ∧ rdD f sz1 D0 (0 : Int).toNat = DD) := R4
  have HTT : Hid (∀ j, In64 (nth D0 j)) := TT
  clear R1 R2 R3 R4 TT
  have HQ : Hid (e2E g c1 sz1 dz1 c2 sz2 dz2 = 0 ∧ shp sz1 sz2 = sz1 ∧ e2V g c1 sz1 dz1 c2 sz2 dz2 = D0) := ⟨Q.out, HR1.out.2, HR1.out.1⟩
  have HQ1 : Hid (inE f g c1 sz1 dz1 c2 sz2 dz2 = 0 ∧ inS sz1 sz2 = [] ∧ inD f g c1 sz1 dz1 c2 sz2 dz2 = DD) := ⟨HR2.out.2 ⟨Q.out, Q2 _ HR1.out.1⟩, HR3.out.1, HR3.out.2⟩
  have HQ3 : Hid (rdE f 0 false sz1 D0 = 0 ∧ xout (0 : Int).toNat sz1 = [] ∧ rdD f sz1 D0 (0 : Int).toNat = DD) := ⟨Q2 _ HR1.out.1, HR4.out.1, HR4.out.2⟩
  clear Q2
  obtain ⟨x11, x12, x3, x4, s64, T⟩ := w8
  have HI1 : Hid (IsC w.heap.size w sa1 sz1 sc1 ∧ IsC w.heap.size w da1 dz1 dc1 ∧ (∀ j, In64 (nth sz1 j)) ∧ ∀ j, In64 (nth dz1 j)) := ⟨x3, x4, s64, T⟩
  clear x3 x4 T s64
  obtain ⟨x21, x22, x3, x4, s64, T⟩ := w9
  have HI2 : Hid (IsC w.heap.size w sa2 sz2 sc2 ∧ IsC w.heap.size w da2 dz2 dc2 ∧ (∀ j, In64 (nth sz2 j)) ∧ ∀ j, In64 (nth dz2 j)) := ⟨x3, x4, s64, T⟩
  clear x3 x4 T s64
  have n1 := Abx.new w (.bool c1) (.slice sa1 sz1.length sc1) (.slice da1 dz1.length dc1)
  have n2 := Abx.new (w.alloc (.cells #[.bool c1, .slice sa1 sz1.length sc1, .slice da1 dz1.length dc1] 25)) (.bool c2) (.slice sa2 sz2.length sc2) (.slice da2 dz2.length dc2)
  simp only [World.size_alloc] at n2
  have n3 := lit_mid ((w.alloc (.cells #[.bool c1, .slice sa1 sz1.length sc1, .slice da1 dz1.length dc1] 25)).alloc (.cells #[.bool c2, .slice sa2 sz2.length sc2, .slice da2 dz2.length dc2] 25)) 3 [1, 2, 3] 3 rfl
  simp only [World.size_alloc, List.map_cons, List.map_nil] at n3
  go_enter Try.func6, Try.ntmps6
  go_wp2_with fail
  obtain ⟨wo4, hwo4⟩ : ∃ wo4, wo4 = (((w.alloc (.cells #[.bool c1, .slice sa1 sz1.length sc1, .slice da1 dz1.length dc1] 25)).alloc (.cells #[.bool c2, .slice sa2 sz2.length sc2, .slice da2 dz2.length dc2] 25)).alloc (.cells #[.int .i64 1, .int .i64 2, .int .i64 3] 3)) := ⟨_, rfl⟩
  rw [← hwo4]
  have z5 : w.heap.size + 1 + 1 + 1 ≤ wo4.heap.size := by rw [hwo4]; simp only [World.size_alloc]; omega
  have B6 : Hid (Abx wo4 (w.heap.size) (.bool c1) (.slice sa1 sz1.length sc1) (.slice da1 dz1.length dc1)) := by rw [hwo4]; exact ((n1.al (.cells #[.bool c2, .slice sa2 sz2.length sc2, .slice da2 dz2.length dc2] 25)).al (.cells #[.int .i64 1, .int .i64 2, .int .i64 3] 3))
  have B7 : Hid (Abx wo4 (w.heap.size + 1) (.bool c2) (.slice sa2 sz2.length sc2) (.slice da2 dz2.length dc2)) := by rw [hwo4]; exact (n2.al (.cells #[.int .i64 1, .int .i64 2, .int .i64 3] 3))
  have L8 : Hid (MidC (w.heap.size + 1 + 1) (w.heap.size + 1 + 1 + 1) wo4 (some ⟨w.heap.size + 1 + 1, 0, none⟩) ([1, 2, 3]) (3)) := by rw [hwo4]; exact n3
  have hb9 : Hid (Below w.heap.size w wo4) := by rw [hwo4]; exact ((((Below.refl w.heap.size w).alloc (by omega) (.cells #[.bool c1, .slice sa1 sz1.length sc1, .slice da1 dz1.length dc1] 25)).alloc (by simp only [World.size_alloc]; omega) (.cells #[.bool c2, .slice sa2 sz2.length sc2, .slice da2 dz2.length dc2] 25)).alloc (by simp only [World.size_alloc]; omega) (.cells #[.int .i64 1, .int .i64 2, .int .i64 3] 3))
  have zwo4 : w.heap.size ≤ wo4.heap.size := hb9.out.size
  clear hwo4 n1 n2 n3
  refine (vec_c (some ⟨w.heap.size + 1 + 1, 0, none⟩) 3 [1, 2, 3] (by simp) _ (L8.out.is (by omega)).1).mono ?_
  rintro e v1 ⟨vap, vcp, gap, gcp, rfl, hVp, hGp, hB⟩
  have z10 : wo4.heap.size ≤ v1.heap.size := hB.size
  have B11 : Hid (Abx v1 (w.heap.size) (.bool c1) (.slice sa1 sz1.length sc1) (.slice da1 dz1.length dc1)) := B6.out.go hB
  have B12 : Hid (Abx v1 (w.heap.size + 1) (.bool c2) (.slice sa2 sz2.length sc2) (.slice da2 dz2.length dc2)) := B7.out.go hB
  have L13 : Hid (MidC (w.heap.size + 1 + 1) (w.heap.size + 1 + 1 + 1) v1 (some ⟨w.heap.size + 1 + 1, 0, none⟩) ([1, 2, 3]) (3)) := L8.out.go (by omega) hB
  have hb14 : Hid (Below w.heap.size w v1) := hb9.out.trans (hB.mono hb9.out.size)
  have L15 : Hid (MidC (wo4.heap.size) (v1.heap.size) v1 (vap) ([(3 : Int)]) (vcp)) := hVp.midc
  have L16 : Hid (MidC (wo4.heap.size) (v1.heap.size) v1 (gap) ([1, 2, 3]) (gcp)) := hGp.midc
  clear hB hb9 B6 B7 L8 hVp hGp
  clear L13
  have n17 := lit_mid v1 3 [1, 0, 3] 3 rfl
  simp only [List.map_cons, List.map_nil] at n17
  go_wp2_with fail
  obtain ⟨wo18, hwo18⟩ : ∃ wo18, wo18 = (v1.alloc (.cells #[.int .i64 1, .int .i64 0, .int .i64 3] 3)) := ⟨_, rfl⟩
  rw [← hwo18]
  have z19 : v1.heap.size + 1 ≤ wo18.heap.size := by rw [hwo18]; simp only [World.size_alloc]; omega
  have B20 : Hid (Abx wo18 (w.heap.size) (.bool c1) (.slice sa1 sz1.length sc1) (.slice da1 dz1.length dc1)) := by rw [hwo18]; exact (B11.out.al (.cells #[.int .i64 1, .int .i64 0, .int .i64 3] 3))
  have B21 : Hid (Abx wo18 (w.heap.size + 1) (.bool c2) (.slice sa2 sz2.length sc2) (.slice da2 dz2.length dc2)) := by rw [hwo18]; exact (B12.out.al (.cells #[.int .i64 1, .int .i64 0, .int .i64 3] 3))
  have L22 : Hid (MidC (wo4.heap.size) (v1.heap.size) wo18 (vap) ([(3 : Int)]) (vcp)) := by rw [hwo18]; exact (L15.out.al (by omega) (.cells #[.int .i64 1, .int .i64 0, .int .i64 3] 3))
  have L23 : Hid (MidC (wo4.heap.size) (v1.heap.size) wo18 (gap) ([1, 2, 3]) (gcp)) := by rw [hwo18]; exact (L16.out.al (by omega) (.cells #[.int .i64 1, .int .i64 0, .int .i64 3] 3))
  have L24 : Hid (MidC (v1.heap.size) (v1.heap.size + 1) wo18 (some ⟨v1.heap.size, 0, none⟩) ([1, 0, 3]) (3)) := by rw [hwo18]; exact n17
  have hb25 : Hid (Below w.heap.size w wo18) := by rw [hwo18]; exact (hb14.out.alloc (by omega) (.cells #[.int .i64 1, .int .i64 0, .int .i64 3] 3))
  have zwo18 : w.heap.size ≤ wo18.heap.size := hb25.out.size
  clear hwo18 n17 hb14 B11 B12 L15 L16
  refine (vec_c (some ⟨v1.heap.size, 0, none⟩) 3 [1, 0, 3] (by simp) _ (L24.out.is (by omega)).1).mono ?_
  rintro e v2 ⟨vaq, vcq, gaq, gcq, rfl, hVq, hGq, hB⟩
  have z26 : wo18.heap.size ≤ v2.heap.size := hB.size
  have B27 : Hid (Abx v2 (w.heap.size) (.bool c1) (.slice sa1 sz1.length sc1) (.slice da1 dz1.length dc1)) := B20.out.go hB
  have B28 : Hid (Abx v2 (w.heap.size + 1) (.bool c2) (.slice sa2 sz2.length sc2) (.slice da2 dz2.length dc2)) := B21.out.go hB
  have L29 : Hid (MidC (wo4.heap.size) (v1.heap.size) v2 (vap) ([(3 : Int)]) (vcp)) := L22.out.go (by omega) hB
  have L30 : Hid (MidC (wo4.heap.size) (v1.heap.size) v2 (gap) ([1, 2, 3]) (gcp)) := L23.out.go (by omega) hB
  have L31 : Hid (MidC (v1.heap.size) (v1.heap.size + 1) v2 (some ⟨v1.heap.size, 0, none⟩) ([1, 0, 3]) (3)) := L24.out.go (by omega) hB
  have hb32 : Hid (Below w.heap.size w v2) := hb25.out.trans (hB.mono hb25.out.size)
  have L33 : Hid (MidC (wo18.heap.size) (v2.heap.size) v2 (vaq) ([(3 : Int)]) (vcq)) := hVq.midc
  have L34 : Hid (MidC (wo18.heap.size) (v2.heap.size) v2 (gaq) ([1, 0, 3]) (gcq)) := hGq.midc
  clear hB hb25 B20 B21 L22 L23 L24 hVq hGq
  clear L31
  go_wp2_with fail
  refine (niw_ok 1 8 false vap vcp [(3 : Int)] 1 rfl gap gcp [1, 2, 3] 3 rfl false vaq vcq [(3 : Int)] 1 rfl gaq gcq [1, 0, 3] 3 rfl _ (by unfold In64; decide) (by unfold In64; decide) (by decide) (by decide) (L29.out.is (by omega)) (L30.out.is (by omega)).1 (lit12 (by decide)) (by decide) (by decide) (L33.out.is (by omega)) (L34.out.is (by omega)).1 (lit12 (by decide)) [] [2] HNi (by show inE 1 8 false [(3 : Int)] [1, 2, 3] false [(3 : Int)] [1, 0, 3] = 0 ∧ inS [(3 : Int)] [(3 : Int)] = [] ∧ inD 1 8 false [(3 : Int)] [1, 2, 3] false [(3 : Int)] [1, 0, 3] = [2]; decide +kernel)).mono ?_
  rintro e v3 ⟨f1, g1, f2, g2, rfl, hX0, hY0, hB⟩
  have z35 : v2.heap.size ≤ v3.heap.size := hB.size
  have B36 : Hid (Abx v3 (w.heap.size) (.bool c1) (.slice sa1 sz1.length sc1) (.slice da1 dz1.length dc1)) := B27.out.go hB
  have B37 : Hid (Abx v3 (w.heap.size + 1) (.bool c2) (.slice sa2 sz2.length sc2) (.slice da2 dz2.length dc2)) := B28.out.go hB
  have L38 : Hid (MidC (wo4.heap.size) (v1.heap.size) v3 (vap) ([(3 : Int)]) (vcp)) := L29.out.go (by omega) hB
  have L39 : Hid (MidC (wo4.heap.size) (v1.heap.size) v3 (gap) ([1, 2, 3]) (gcp)) := L30.out.go (by omega) hB
  have L40 : Hid (MidC (wo18.heap.size) (v2.heap.size) v3 (vaq) ([(3 : Int)]) (vcq)) := L33.out.go (by omega) hB
  have L41 : Hid (MidC (wo18.heap.size) (v2.heap.size) v3 (gaq) ([1, 0, 3]) (gcq)) := L34.out.go (by omega) hB
  have hb42 : Hid (Below w.heap.size w v3) := hb32.out.trans (hB.mono hb32.out.size)
  have L43 : Hid (MidC (v2.heap.size) (v3.heap.size) v3 (f1) ([]) (g1)) := hX0.midc
  have L44 : Hid (MidC (v2.heap.size) (v3.heap.size) v3 (f2) ([2]) (g2)) := hY0.midc
  clear hB hb32 B27 B28 L29 L30 L33 L34 hX0 hY0
  clear L38 L39 L40 L41
  obtain ⟨b45, ob45, rfl, _, _, _, _⟩ := L44.out.at (i := 0) (by decide)
  have n46 := Abx.new v3 (.bool false) (.slice f1 0 g1) (.slice (some ⟨b45, ob45, none⟩) 1 g2)
  have l47 := (n46).c0
  have l48 := (n46).c1
  have l49 := (n46).c2
  obtain ⟨_, _, l50e, _, _, l50, _⟩ := ((L44.out.al (by omega) (.cells #[.bool false, .slice f1 0 g1, .slice (some ⟨b45, ob45, none⟩) 1 g2] 25))).at (i := 0) (by decide)
  cases l50e
  try simp only [Nat.add_zero] at l50
  have l51 := ((B36.out.al (.cells #[.bool false, .slice f1 0 g1, .slice (some ⟨b45, ob45, none⟩) 1 g2] 25))).c0
  have l52 := ((B36.out.al (.cells #[.bool false, .slice f1 0 g1, .slice (some ⟨b45, ob45, none⟩) 1 g2] 25))).c1
  have l53 := ((B36.out.al (.cells #[.bool false, .slice f1 0 g1, .slice (some ⟨b45, ob45, none⟩) 1 g2] 25))).c2
  have l54 := ((B37.out.al (.cells #[.bool false, .slice f1 0 g1, .slice (some ⟨b45, ob45, none⟩) 1 g2] 25))).c0
  have l55 := ((B37.out.al (.cells #[.bool false, .slice f1 0 g1, .slice (some ⟨b45, ob45, none⟩) 1 g2] 25))).c1
  have l56 := ((B37.out.al (.cells #[.bool false, .slice f1 0 g1, .slice (some ⟨b45, ob45, none⟩) 1 g2] 25))).c2
  go_wp2_with fail
  obtain ⟨wo57, hwo57⟩ : ∃ wo57, wo57 = (v3.alloc (.cells #[.bool false, .slice f1 0 g1, .slice (some ⟨b45, ob45, none⟩) 1 g2] 25)) := ⟨_, rfl⟩
  rw [← hwo57]
  have z58 : v3.heap.size + 1 ≤ wo57.heap.size := by rw [hwo57]; simp only [World.size_alloc]; omega
  have B59 : Hid (Abx wo57 (w.heap.size) (.bool c1) (.slice sa1 sz1.length sc1) (.slice da1 dz1.length dc1)) := by rw [hwo57]; exact (B36.out.al (.cells #[.bool false, .slice f1 0 g1, .slice (some ⟨b45, ob45, none⟩) 1 g2] 25))
  have B60 : Hid (Abx wo57 (w.heap.size + 1) (.bool c2) (.slice sa2 sz2.length sc2) (.slice da2 dz2.length dc2)) := by rw [hwo57]; exact (B37.out.al (.cells #[.bool false, .slice f1 0 g1, .slice (some ⟨b45, ob45, none⟩) 1 g2] 25))
  have B61 : Hid (Abx wo57 (v3.heap.size) (.bool false) (.slice f1 0 g1) (.slice (some ⟨b45, ob45, none⟩) 1 g2)) := by rw [hwo57]; exact n46
  have L62 : Hid (MidC (v2.heap.size) (v3.heap.size) wo57 (f1) ([]) (g1)) := by rw [hwo57]; exact (L43.out.al (by omega) (.cells #[.bool false, .slice f1 0 g1, .slice (some ⟨b45, ob45, none⟩) 1 g2] 25))
  have L63 : Hid (MidC (v2.heap.size) (v3.heap.size) wo57 (some ⟨b45, ob45, none⟩) ([2]) (g2)) := by rw [hwo57]; exact (L44.out.al (by omega) (.cells #[.bool false, .slice f1 0 g1, .slice (some ⟨b45, ob45, none⟩) 1 g2] 25))
  have hb64 : Hid (Below w.heap.size w wo57) := by rw [hwo57]; exact (hb42.out.alloc (by omega) (.cells #[.bool false, .slice f1 0 g1, .slice (some ⟨b45, ob45, none⟩) 1 g2] 25))
  have zwo57 : w.heap.size ≤ wo57.heap.size := hb64.out.size
  clear hwo57 n46 l47 l48 l49 l50 l51 l52 l53 l54 l55 l56 hb42 B36 B37 L43 L44
  clear L62 L63 B61
  refine (ints_any sa1 sc1 sz1 sa2 sc2 sz2 x11 _ _ ((HI1.out.1.1.below hb64.out).mono hb64.out.size) ((HI2.out.1.1.below hb64.out).mono hb64.out.size)).mono ?_
  rintro e v4 ⟨rfl, hB⟩
  have z65 : wo57.heap.size ≤ v4.heap.size := hB.size
  have B66 : Hid (Abx v4 (w.heap.size) (.bool c1) (.slice sa1 sz1.length sc1) (.slice da1 dz1.length dc1)) := B59.out.go hB
  have B67 : Hid (Abx v4 (w.heap.size + 1) (.bool c2) (.slice sa2 sz2.length sc2) (.slice da2 dz2.length dc2)) := B60.out.go hB
  have hb68 : Hid (Below w.heap.size w v4) := hb64.out.trans (hB.mono hb64.out.size)
  clear hB hb64 B59 B60
  rw [eqB_true ES.out]
  have l69 := (B66.out).c0
  have l70 := (B66.out).c1
  have l71 := (B66.out).c2
  go_wp2_with fail
  clear l69 l70 l71
  refine (check_ok c1 sa1 sc1 sz1 da1 dc1 dz1 x11 x12 _ ((HI1.out.1.1.below hb68.out).mono hb68.out.size) ((HI1.out.2.1.1.below hb68.out).mono hb68.out.size) F1.out).mono ?_
  rintro e v5 ⟨rfl, hB⟩
  have z72 : v4.heap.size ≤ v5.heap.size := hB.size
  have B73 : Hid (Abx v5 (w.heap.size) (.bool c1) (.slice sa1 sz1.length sc1) (.slice da1 dz1.length dc1)) := B66.out.go hB
  have B74 : Hid (Abx v5 (w.heap.size + 1) (.bool c2) (.slice sa2 sz2.length sc2) (.slice da2 dz2.length dc2)) := B67.out.go hB
  have hb75 : Hid (Below w.heap.size w v5) := hb68.out.trans (hB.mono hb68.out.size)
  clear hB hb68 B66 B67
  have l76 := (B74.out).c0
  have l77 := (B74.out).c1
  have l78 := (B74.out).c2
  go_wp2_with fail
  clear l76 l77 l78
  refine (check_ok c2 sa2 sc2 sz2 da2 dc2 dz2 x21 x22 _ ((HI2.out.1.1.below hb75.out).mono hb75.out.size) ((HI2.out.2.1.1.below hb75.out).mono hb75.out.size) F2.out).mono ?_
  rintro e v6 ⟨rfl, hB⟩
  have z79 : v5.heap.size ≤ v6.heap.size := hB.size
  have B80 : Hid (Abx v6 (w.heap.size) (.bool c1) (.slice sa1 sz1.length sc1) (.slice da1 dz1.length dc1)) := B73.out.go hB
  have B81 : Hid (Abx v6 (w.heap.size + 1) (.bool c2) (.slice sa2 sz2.length sc2) (.slice da2 dz2.length dc2)) := B74.out.go hB
  have hb82 : Hid (Below w.heap.size w v6) := hb75.out.trans (hB.mono hb75.out.size)
  clear hB hb75 B73 B74
  have l83 := (B80.out).c0
  have l84 := (B80.out).c1
  have l85 := (B80.out).c2
  have l86 := (B81.out).c0
  have l87 := (B81.out).c1
  have l88 := (B81.out).c2
  go_wp2_with fail
  clear l83 l84 l85 l86 l87 l88
  refine (niw_ok f g c1 sa1 sc1 sz1 sz1.length rfl da1 dc1 dz1 dz1.length rfl c2 sa2 sc2 sz2 sz2.length rfl da2 dc2 dz2 dz2.length rfl _ hf hg x11 x12 ((HI1.out.1.below hb82.out).mono hb82.out.size) ((HI1.out.2.1.1.below hb82.out).mono hb82.out.size) HI1.out.2.2.2 x21 x22 ((HI2.out.1.below hb82.out).mono hb82.out.size) ((HI2.out.2.1.1.below hb82.out).mono hb82.out.size) HI2.out.2.2.2 [] DD HNi HQ1.out).mono ?_
  rintro e v7 ⟨xa1, xc1, ya1, yc1, rfl, hX1, hY1, hB⟩
  have z89 : v6.heap.size ≤ v7.heap.size := hB.size
  have B90 : Hid (Abx v7 (w.heap.size) (.bool c1) (.slice sa1 sz1.length sc1) (.slice da1 dz1.length dc1)) := B80.out.go hB
  have B91 : Hid (Abx v7 (w.heap.size + 1) (.bool c2) (.slice sa2 sz2.length sc2) (.slice da2 dz2.length dc2)) := B81.out.go hB
  have hb92 : Hid (Below w.heap.size w v7) := hb82.out.trans (hB.mono hb82.out.size)
  have L93 : Hid (MidC (v6.heap.size) (v7.heap.size) v7 (xa1) ([]) (xc1)) := hX1.midc
  have L94 : Hid (MidC (v6.heap.size) (v7.heap.size) v7 (ya1) (DD) (yc1)) := hY1.midc
  clear hB hb82 B80 B81 hX1 hY1
  have n95 := Abx.new v7 (.bool false) (.slice xa1 0 xc1) (.slice ya1 DD.length yc1)
  have l96 := ((B90.out.al (.cells #[.bool false, .slice xa1 0 xc1, .slice ya1 DD.length yc1] 25))).c0
  have l97 := ((B90.out.al (.cells #[.bool false, .slice xa1 0 xc1, .slice ya1 DD.length yc1] 25))).c1
  have l98 := ((B90.out.al (.cells #[.bool false, .slice xa1 0 xc1, .slice ya1 DD.length yc1] 25))).c2
  have l99 := ((B91.out.al (.cells #[.bool false, .slice xa1 0 xc1, .slice ya1 DD.length yc1] 25))).c0
  have l100 := ((B91.out.al (.cells #[.bool false, .slice xa1 0 xc1, .slice ya1 DD.length yc1] 25))).c1
  have l101 := ((B91.out.al (.cells #[.bool false, .slice xa1 0 xc1, .slice ya1 DD.length yc1] 25))).c2
  go_wp2_with fail
  obtain ⟨wo102, hwo102⟩ : ∃ wo102, wo102 = (v7.alloc (.cells #[.bool false, .slice xa1 0 xc1, .slice ya1 DD.length yc1] 25)) := ⟨_, rfl⟩
  rw [← hwo102]
  have z103 : v7.heap.size + 1 ≤ wo102.heap.size := by rw [hwo102]; simp only [World.size_alloc]; omega
  have B104 : Hid (Abx wo102 (w.heap.size) (.bool c1) (.slice sa1 sz1.length sc1) (.slice da1 dz1.length dc1)) := by rw [hwo102]; exact (B90.out.al (.cells #[.bool false, .slice xa1 0 xc1, .slice ya1 DD.length yc1] 25))
  have B105 : Hid (Abx wo102 (w.heap.size + 1) (.bool c2) (.slice sa2 sz2.length sc2) (.slice da2 dz2.length dc2)) := by rw [hwo102]; exact (B91.out.al (.cells #[.bool false, .slice xa1 0 xc1, .slice ya1 DD.length yc1] 25))
  have B106 : Hid (Abx wo102 (v7.heap.size) (.bool false) (.slice xa1 0 xc1) (.slice ya1 DD.length yc1)) := by rw [hwo102]; exact n95
  have L107 : Hid (MidC (v6.heap.size) (v7.heap.size) wo102 (xa1) ([]) (xc1)) := by rw [hwo102]; exact (L93.out.al (by omega) (.cells #[.bool false, .slice xa1 0 xc1, .slice ya1 DD.length yc1] 25))
  have L108 : Hid (MidC (v6.heap.size) (v7.heap.size) wo102 (ya1) (DD) (yc1)) := by rw [hwo102]; exact (L94.out.al (by omega) (.cells #[.bool false, .slice xa1 0 xc1, .slice ya1 DD.length yc1] 25))
  have hb109 : Hid (Below w.heap.size w wo102) := by rw [hwo102]; exact (hb92.out.alloc (by omega) (.cells #[.bool false, .slice xa1 0 xc1, .slice ya1 DD.length yc1] 25))
  have zwo102 : w.heap.size ≤ wo102.heap.size := hb109.out.size
  clear hwo102 n95 l96 l97 l98 l99 l100 l101 hb92 B90 B91 L93 L94
  refine (c2w_ok H2 g c1 sa1 sc1 sz1 sz1.length rfl da1 dc1 dz1 dz1.length rfl c2 sa2 sc2 sz2 sz2.length rfl da2 dc2 dz2 dz2.length rfl _ hg x11 x12 ((HI1.out.1.1.below hb109.out).mono hb109.out.size) ((HI1.out.2.1.1.below hb109.out).mono hb109.out.size) HI1.out.2.2.2 x21 x22 ((HI2.out.1.1.below hb109.out).mono hb109.out.size) ((HI2.out.2.1.1.below hb109.out).mono hb109.out.size) HI2.out.2.2.2 sz1 D0 HQ.out).mono ?_
  rintro e v8 ⟨xa2, xc2, ya2, yc2, rfl, hX2, hY2, hB⟩
  have z110 : wo102.heap.size ≤ v8.heap.size := hB.size
  have B111 : Hid (Abx v8 (w.heap.size) (.bool c1) (.slice sa1 sz1.length sc1) (.slice da1 dz1.length dc1)) := B104.out.go hB
  have B112 : Hid (Abx v8 (w.heap.size + 1) (.bool c2) (.slice sa2 sz2.length sc2) (.slice da2 dz2.length dc2)) := B105.out.go hB
  have B113 : Hid (Abx v8 (v7.heap.size) (.bool false) (.slice xa1 0 xc1) (.slice ya1 DD.length yc1)) := B106.out.go hB
  have L114 : Hid (MidC (v6.heap.size) (v7.heap.size) v8 (xa1) ([]) (xc1)) := L107.out.go (by omega) hB
  have L115 : Hid (MidC (v6.heap.size) (v7.heap.size) v8 (ya1) (DD) (yc1)) := L108.out.go (by omega) hB
  have hb116 : Hid (Below w.heap.size w v8) := hb109.out.trans (hB.mono hb109.out.size)
  have L117 : Hid (MidC (wo102.heap.size) (v8.heap.size) v8 (xa2) (sz1) (xc2)) := hX2.midc
  have L118 : Hid (MidC (wo102.heap.size) (v8.heap.size) v8 (ya2) (D0) (yc2)) := hY2.midc
  clear hB hb109 B104 B105 B106 L107 L108 hX2 hY2
  have n119 := Abx.new v8 (.bool false) (.slice xa2 sz1.length xc2) (.slice ya2 D0.length yc2)
  have l120 := (n119).c0
  have l121 := (n119).c1
  have l122 := (n119).c2
  go_wp2_with fail
  obtain ⟨wo123, hwo123⟩ : ∃ wo123, wo123 = (v8.alloc (.cells #[.bool false, .slice xa2 sz1.length xc2, .slice ya2 D0.length yc2] 25)) := ⟨_, rfl⟩
  rw [← hwo123]
  have z124 : v8.heap.size + 1 ≤ wo123.heap.size := by rw [hwo123]; simp only [World.size_alloc]; omega
  have B125 : Hid (Abx wo123 (w.heap.size) (.bool c1) (.slice sa1 sz1.length sc1) (.slice da1 dz1.length dc1)) := by rw [hwo123]; exact (B111.out.al (.cells #[.bool false, .slice xa2 sz1.length xc2, .slice ya2 D0.length yc2] 25))
  have B126 : Hid (Abx wo123 (w.heap.size + 1) (.bool c2) (.slice sa2 sz2.length sc2) (.slice da2 dz2.length dc2)) := by rw [hwo123]; exact (B112.out.al (.cells #[.bool false, .slice xa2 sz1.length xc2, .slice ya2 D0.length yc2] 25))
  have B127 : Hid (Abx wo123 (v7.heap.size) (.bool false) (.slice xa1 0 xc1) (.slice ya1 DD.length yc1)) := by rw [hwo123]; exact (B113.out.al (.cells #[.bool false, .slice xa2 sz1.length xc2, .slice ya2 D0.length yc2] 25))
  have B128 : Hid (Abx wo123 (v8.heap.size) (.bool false) (.slice xa2 sz1.length xc2) (.slice ya2 D0.length yc2)) := by rw [hwo123]; exact n119
  have L129 : Hid (MidC (v6.heap.size) (v7.heap.size) wo123 (xa1) ([]) (xc1)) := by rw [hwo123]; exact (L114.out.al (by omega) (.cells #[.bool false, .slice xa2 sz1.length xc2, .slice ya2 D0.length yc2] 25))
  have L130 : Hid (MidC (v6.heap.size) (v7.heap.size) wo123 (ya1) (DD) (yc1)) := by rw [hwo123]; exact (L115.out.al (by omega) (.cells #[.bool false, .slice xa2 sz1.length xc2, .slice ya2 D0.length yc2] 25))
  have L131 : Hid (MidC (wo102.heap.size) (v8.heap.size) wo123 (xa2) (sz1) (xc2)) := by rw [hwo123]; exact (L117.out.al (by omega) (.cells #[.bool false, .slice xa2 sz1.length xc2, .slice ya2 D0.length yc2] 25))
  have L132 : Hid (MidC (wo102.heap.size) (v8.heap.size) wo123 (ya2) (D0) (yc2)) := by rw [hwo123]; exact (L118.out.al (by omega) (.cells #[.bool false, .slice xa2 sz1.length xc2, .slice ya2 D0.length yc2] 25))
  have hb133 : Hid (Below w.heap.size w wo123) := by rw [hwo123]; exact (hb116.out.alloc (by omega) (.cells #[.bool false, .slice xa2 sz1.length xc2, .slice ya2 D0.length yc2] 25))
  have zwo123 : w.heap.size ≤ wo123.heap.size := hb133.out.size
  clear hwo123 n119 l120 l121 l122 hb116 B111 B112 B113 L114 L115 L117 L118
  refine (rdw_ok f 0 false xa2 xc2 sz1 sz1.length rfl ya2 yc2 D0 D0.length rfl _ hf (by unfold In64; decide) (by omega) (by omega) (L131.out.is (by omega)) (L132.out.is (by omega)).1 HTT.out [] DD HRd HQ3.out).mono ?_
  rintro e v9 ⟨xa3, xc3, ya3, yc3, rfl, hX3, hY3, hB⟩
  have z134 : wo123.heap.size ≤ v9.heap.size := hB.size
  have B135 : Hid (Abx v9 (w.heap.size) (.bool c1) (.slice sa1 sz1.length sc1) (.slice da1 dz1.length dc1)) := B125.out.go hB
  have B136 : Hid (Abx v9 (w.heap.size + 1) (.bool c2) (.slice sa2 sz2.length sc2) (.slice da2 dz2.length dc2)) := B126.out.go hB
  have B137 : Hid (Abx v9 (v7.heap.size) (.bool false) (.slice xa1 0 xc1) (.slice ya1 DD.length yc1)) := B127.out.go hB
  have B138 : Hid (Abx v9 (v8.heap.size) (.bool false) (.slice xa2 sz1.length xc2) (.slice ya2 D0.length yc2)) := B128.out.go hB
  have L139 : Hid (MidC (v6.heap.size) (v7.heap.size) v9 (xa1) ([]) (xc1)) := L129.out.go (by omega) hB
  have L140 : Hid (MidC (v6.heap.size) (v7.heap.size) v9 (ya1) (DD) (yc1)) := L130.out.go (by omega) hB
  have L141 : Hid (MidC (wo102.heap.size) (v8.heap.size) v9 (xa2) (sz1) (xc2)) := L131.out.go (by omega) hB
  have L142 : Hid (MidC (wo102.heap.size) (v8.heap.size) v9 (ya2) (D0) (yc2)) := L132.out.go (by omega) hB
  have hb143 : Hid (Below w.heap.size w v9) := hb133.out.trans (hB.mono hb133.out.size)
  have L144 : Hid (MidC (wo123.heap.size) (v9.heap.size) v9 (xa3) ([]) (xc3)) := hX3.midc
  have L145 : Hid (MidC (wo123.heap.size) (v9.heap.size) v9 (ya3) (DD) (yc3)) := hY3.midc
  clear hB hb133 B125 B126 B127 B128 L129 L130 L131 L132 hX3 hY3
  clear L141 L142
  have l146 := (B138.out).fr 0
  have l147 := (B138.out).c0
  have l148 := (B138.out).fr 1
  have l149 := (B138.out).c1
  have l150 := (B138.out).fr 2
  have l151 := (B138.out).c2
  have l152 := ((abx_o3 B137.out (B := v8.heap.size) (by omega) (.bool false) (.slice xa3 0 xc3) (.slice ya3 DD.length yc3))).c0
  have l153 := ((abx_o3 B137.out (B := v8.heap.size) (by omega) (.bool false) (.slice xa3 0 xc3) (.slice ya3 DD.length yc3))).c1
  have l154 := ((abx_o3 B137.out (B := v8.heap.size) (by omega) (.bool false) (.slice xa3 0 xc3) (.slice ya3 DD.length yc3))).c2
  have l155 := ((B138.out.set3 (.bool false) (.slice xa3 0 xc3) (.slice ya3 DD.length yc3))).c0
  have l156 := ((B138.out.set3 (.bool false) (.slice xa3 0 xc3) (.slice ya3 DD.length yc3))).c1
  have l157 := ((B138.out.set3 (.bool false) (.slice xa3 0 xc3) (.slice ya3 DD.length yc3))).c2
  go_wp2_with fail
  obtain ⟨wo158, hwo158⟩ : ∃ wo158, wo158 = (((v9.setCell ⟨v8.heap.size, 0, none⟩ (.bool false)).setCell ⟨v8.heap.size, 1, none⟩ (.slice xa3 0 xc3)).setCell ⟨v8.heap.size, 2, none⟩ (.slice ya3 DD.length yc3)) := ⟨_, rfl⟩
  rw [← hwo158]
  have z159 : v9.heap.size ≤ wo158.heap.size := by rw [hwo158]; simp only [World.size_setCell]; omega
  have B160 : Hid (Abx wo158 (w.heap.size) (.bool c1) (.slice sa1 sz1.length sc1) (.slice da1 dz1.length dc1)) := by rw [hwo158]; exact (abx_o3 B135.out (B := v8.heap.size) (by omega) (.bool false) (.slice xa3 0 xc3) (.slice ya3 DD.length yc3))
  have B161 : Hid (Abx wo158 (w.heap.size + 1) (.bool c2) (.slice sa2 sz2.length sc2) (.slice da2 dz2.length dc2)) := by rw [hwo158]; exact (abx_o3 B136.out (B := v8.heap.size) (by omega) (.bool false) (.slice xa3 0 xc3) (.slice ya3 DD.length yc3))
  have B162 : Hid (Abx wo158 (v7.heap.size) (.bool false) (.slice xa1 0 xc1) (.slice ya1 DD.length yc1)) := by rw [hwo158]; exact (abx_o3 B137.out (B := v8.heap.size) (by omega) (.bool false) (.slice xa3 0 xc3) (.slice ya3 DD.length yc3))
  have B163 : Hid (Abx wo158 (v8.heap.size) (.bool false) (.slice xa3 0 xc3) (.slice ya3 DD.length yc3)) := by rw [hwo158]; exact (B138.out.set3 (.bool false) (.slice xa3 0 xc3) (.slice ya3 DD.length yc3))
  have L164 : Hid (MidC (v6.heap.size) (v7.heap.size) wo158 (xa1) ([]) (xc1)) := by rw [hwo158]; exact (L139.out.s3 (b := v8.heap.size) (by omega) (.bool false) (.slice xa3 0 xc3) (.slice ya3 DD.length yc3))
  have L165 : Hid (MidC (v6.heap.size) (v7.heap.size) wo158 (ya1) (DD) (yc1)) := by rw [hwo158]; exact (L140.out.s3 (b := v8.heap.size) (by omega) (.bool false) (.slice xa3 0 xc3) (.slice ya3 DD.length yc3))
  have L166 : Hid (MidC (wo123.heap.size) (v9.heap.size) wo158 (xa3) ([]) (xc3)) := by rw [hwo158]; exact (L144.out.s3 (b := v8.heap.size) (by omega) (.bool false) (.slice xa3 0 xc3) (.slice ya3 DD.length yc3))
  have L167 : Hid (MidC (wo123.heap.size) (v9.heap.size) wo158 (ya3) (DD) (yc3)) := by rw [hwo158]; exact (L145.out.s3 (b := v8.heap.size) (by omega) (.bool false) (.slice xa3 0 xc3) (.slice ya3 DD.length yc3))
  have hb168 : Hid (Below w.heap.size w wo158) := by rw [hwo158]; exact (bel_s3 hb143.out (B := v8.heap.size) (by omega) (.bool false) (.slice xa3 0 xc3) (.slice ya3 DD.length yc3))
  have zwo158 : w.heap.size ≤ wo158.heap.size := hb168.out.size
  clear hwo158 l146 l147 l148 l149 l150 l151 l152 l153 l154 l155 l156 l157 hb143 B135 B136 B137 B138 L139 L140 L144 L145
  refine (sarr_any false false xa1 xc1 [] ya1 yc1 DD xa3 xc3 [] ya3 yc3 DD (by simp) (by omega) _ (L164.out.is (by omega)).1 (L165.out.is (by omega)).1 (L166.out.is (by omega)).1 (L167.out.is (by omega)).1).mono ?_
  rintro e v10 ⟨rfl, hB⟩
  have z169 : wo158.heap.size ≤ v10.heap.size := hB.size
  have B170 : Hid (Abx v10 (w.heap.size) (.bool c1) (.slice sa1 sz1.length sc1) (.slice da1 dz1.length dc1)) := B160.out.go hB
  have B171 : Hid (Abx v10 (w.heap.size + 1) (.bool c2) (.slice sa2 sz2.length sc2) (.slice da2 dz2.length dc2)) := B161.out.go hB
  have B172 : Hid (Abx v10 (v7.heap.size) (.bool false) (.slice xa1 0 xc1) (.slice ya1 DD.length yc1)) := B162.out.go hB
  have B173 : Hid (Abx v10 (v8.heap.size) (.bool false) (.slice xa3 0 xc3) (.slice ya3 DD.length yc3)) := B163.out.go hB
  have L174 : Hid (MidC (v6.heap.size) (v7.heap.size) v10 (xa1) ([]) (xc1)) := L164.out.go (by omega) hB
  have L175 : Hid (MidC (v6.heap.size) (v7.heap.size) v10 (ya1) (DD) (yc1)) := L165.out.go (by omega) hB
  have L176 : Hid (MidC (wo123.heap.size) (v9.heap.size) v10 (xa3) ([]) (xc3)) := L166.out.go (by omega) hB
  have L177 : Hid (MidC (wo123.heap.size) (v9.heap.size) v10 (ya3) (DD) (yc3)) := L167.out.go (by omega) hB
  have hb178 : Hid (Below w.heap.size w v10) := hb168.out.trans (hB.mono hb168.out.size)
  clear hB hb168 B160 B161 B162 B163 L164 L165 L166 L167
  rw [arrB_self]
  go_wp2_with fail
  go_ret
  exact ⟨rfl, hb178.out⟩
theorem plines_walk (HNi : CNi) (H2 : C2d) (HRd : CRd) (f g : Int) (hf : In64 f) (hg : In64 g) (c1 : Bool) (sa1 : Option Addr) (sc1 : Nat) (sz1 : List Int) (da1 : Option Addr) (dc1 : Nat) (dz1 : List Int) (c2 : Bool) (sa2 : Option Addr) (sc2 : Nat) (sz2 : List Int) (da2 : Option Addr) (dc2 : Nat) (dz2 : List Int) (w : World) (w8 : IsArrD w sa1 sz1 sc1 da1 dz1 dc1) (w9 : IsArrD w sa2 sz2 sc2 da2 dz2 dc2) :
    Calls Try.prog 6 #[.int .i64 f, .int .i64 g, .agg #[.bool c1, .slice sa1 sz1.length sc1, .slice da1 dz1.length dc1], .agg #[.bool c2, .slice sa2 sz2.length sc2, .slice da2 dz2.length dc2]] w fun e w' => e = .returned (.bool true) ∧ Below w.heap.size w w' := by
  by_cases h1 : flawE c1 sz1 dz1 = 0
  · by_cases h2 : flawE c2 sz2 dz2 = 0
    · by_cases h3 : sz1.length = 1
      · by_cases hs : sz1 = sz2
        · by_cases q : e2E g c1 sz1 dz1 c2 sz2 dz2 = 0
          · by_cases r : rdE f 0 false sz1 (e2V g c1 sz1 dz1 c2 sz2 dz2) = 0
            · exact lines_ok HNi H2 HRd f g hf hg c1 sa1 sc1 sz1 da1 dc1 dz1 c2 sa2 sc2 sz2 da2 dc2 dz2 w w8 w9 h1 h2 h3 hs q (fun D0 e => e ▸ r)
            · exact lines_r HNi H2 HRd f g hf hg c1 sa1 sc1 sz1 da1 dc1 dz1 c2 sa2 sc2 sz2 da2 dc2 dz2 w w8 w9 h1 h2 h3 hs q (fun D0 e => e ▸ r)
          · exact lines_e HNi H2 HRd f g hf hg c1 sa1 sc1 sz1 da1 dc1 dz1 c2 sa2 sc2 sz2 da2 dc2 dz2 w w8 w9 h1 h2 h3 hs q
        · exact lines_s HNi H2 HRd f g hf hg c1 sa1 sc1 sz1 da1 dc1 dz1 c2 sa2 sc2 sz2 da2 dc2 dz2 w w8 w9 h1 h2 h3 hs
      · exact lines_n HNi H2 HRd f g hf hg c1 sa1 sc1 sz1 da1 dc1 dz1 c2 sa2 sc2 sz2 da2 dc2 dz2 w w8 w9 h1 h2 h3
    · exact lines_b HNi H2 HRd f g hf hg c1 sa1 sc1 sz1 da1 dc1 dz1 c2 sa2 sc2 sz2 da2 dc2 dz2 w w8 w9 h1 h2
  · exact lines_a HNi H2 HRd f g hf hg c1 sa1 sc1 sz1 da1 dc1 dz1 c2 sa2 sc2 sz2 da2 dc2 dz2 w w8 w9 h1
end Go.Proofs.Ytcpmendkocnlhaa
