/-
  The walk of the statement ProdChain, given what the program tells.
-/
import Derived.Test.YtcpmendkocnlhaaPChainWalkA
namespace Go.Proofs.Ytcpmendkocnlhaa
open Go.RowKit
set_option linter.unusedVariables false

set_option maxRecDepth 100000 in
set_option maxHeartbeats 4000000 in
theorem chain_ab (HNi : CNi) (f g : Int) (hf : In64 f) (hg : In64 g) (c1 : Bool) (sa1 : Option Addr) (sc1 : Nat) (sz1 : List Int) (da1 : Option Addr) (dc1 : Nat) (dz1 : List Int) (c2 : Bool) (sa2 : Option Addr) (sc2 : Nat) (sz2 : List Int) (da2 : Option Addr) (dc2 : Nat) (dz2 : List Int) (c3 : Bool) (sa3 : Option Addr) (sc3 : Nat) (sz3 : List Int) (da3 : Option Addr) (dc3 : Nat) (dz3 : List Int) (w : World) (w8 : IsArrD w sa1 sz1 sc1 da1 dz1 dc1) (w9 : IsArrD w sa2 sz2 sc2 da2 dz2 dc2) (w10 : IsArrD w sa3 sz3 sc3 da3 dz3 dc3) (GS : Hid (Srg f g)) (G1 : Hid (GrdP 16 c1 sz1 dz1)) (G2 : Hid (GrdP 16 c2 sz2 dz2)) (G3 : Hid (GrdP 16 c3 sz3 dz3)) (E1 : Hid (¬ nth sz1 1 = nth sz2 0)) :
    Calls Try.prog 3 #[.int .i64 f, .int .i64 g, .agg #[.bool c1, .slice sa1 sz1.length sc1, .slice da1 dz1.length dc1], .agg #[.bool c2, .slice sa2 sz2.length sc2, .slice da2 dz2.length dc2], .agg #[.bool c3, .slice sa3 sz3.length sc3, .slice da3 dz3.length dc3]] w fun e w' => e = .returned (.bool true) ∧ Below w.heap.size w w' := by
  obtain ⟨b1, o1, rfl, hq1, hc1⟩ := w8.2.2.1.1.at (q := 0) (by rw [G1.out.2.1]; decide)
  have hcf1 := G1.out.1
  subst hcf1
  obtain ⟨m1, hm1⟩ : ∃ m, m = nth sz1 0 := ⟨_, rfl⟩
  obtain ⟨n1, hn1⟩ : ∃ n, n = nth sz1 1 := ⟨_, rfl⟩
  have HC1 : Hid (b1 < w.heap.size ∧ w.cell? ⟨b1, o1, none⟩ = some (.int .i64 m1) ∧ w.cell? ⟨b1, o1 + 1, none⟩ = some (.int .i64 n1)) := ⟨hq1, by have := hc1 0 (by rw [G1.out.2.1]; decide); rw [Nat.add_zero, ← hm1] at this; exact this, by rw [hn1]; exact hc1 1 (by rw [G1.out.2.1]; decide)⟩
  have HM1 : Hid (m1 = nth sz1 0 ∧ n1 = nth sz1 1) := ⟨hm1, hn1⟩
  have hz1 : sz1.length = 2 := G1.out.2.1
  have HZ1 : Hid (sz1.length = 2) := hz1
  have lz1 : 1 < sz1.length := by omega
  have ly1 : 0 < sz1.length := by omega
  have lw1 : (1 : Int) < (sz1.length : Int) := by omega
  have lv1 : (0 : Int) < (sz1.length : Int) := by omega
  clear hq1 hc1 hm1 hn1 hz1
  obtain ⟨b2, o2, rfl, hq2, hc2⟩ := w9.2.2.1.1.at (q := 0) (by rw [G2.out.2.1]; decide)
  have hcf2 := G2.out.1
  subst hcf2
  obtain ⟨m2, hm2⟩ : ∃ m, m = nth sz2 0 := ⟨_, rfl⟩
  obtain ⟨n2, hn2⟩ : ∃ n, n = nth sz2 1 := ⟨_, rfl⟩
  have HC2 : Hid (b2 < w.heap.size ∧ w.cell? ⟨b2, o2, none⟩ = some (.int .i64 m2) ∧ w.cell? ⟨b2, o2 + 1, none⟩ = some (.int .i64 n2)) := ⟨hq2, by have := hc2 0 (by rw [G2.out.2.1]; decide); rw [Nat.add_zero, ← hm2] at this; exact this, by rw [hn2]; exact hc2 1 (by rw [G2.out.2.1]; decide)⟩
  have HM2 : Hid (m2 = nth sz2 0 ∧ n2 = nth sz2 1) := ⟨hm2, hn2⟩
  have hz2 : sz2.length = 2 := G2.out.2.1
  have HZ2 : Hid (sz2.length = 2) := hz2
  have lz2 : 1 < sz2.length := by omega
  have ly2 : 0 < sz2.length := by omega
  have lw2 : (1 : Int) < (sz2.length : Int) := by omega
  have lv2 : (0 : Int) < (sz2.length : Int) := by omega
  clear hq2 hc2 hm2 hn2 hz2
  obtain ⟨b3, o3, rfl, hq3, hc3⟩ := w10.2.2.1.1.at (q := 0) (by rw [G3.out.2.1]; decide)
  have hcf3 := G3.out.1
  subst hcf3
  obtain ⟨m3, hm3⟩ : ∃ m, m = nth sz3 0 := ⟨_, rfl⟩
  obtain ⟨n3, hn3⟩ : ∃ n, n = nth sz3 1 := ⟨_, rfl⟩
  have HC3 : Hid (b3 < w.heap.size ∧ w.cell? ⟨b3, o3, none⟩ = some (.int .i64 m3) ∧ w.cell? ⟨b3, o3 + 1, none⟩ = some (.int .i64 n3)) := ⟨hq3, by have := hc3 0 (by rw [G3.out.2.1]; decide); rw [Nat.add_zero, ← hm3] at this; exact this, by rw [hn3]; exact hc3 1 (by rw [G3.out.2.1]; decide)⟩
  have HM3 : Hid (m3 = nth sz3 0 ∧ n3 = nth sz3 1) := ⟨hm3, hn3⟩
  have hz3 : sz3.length = 2 := G3.out.2.1
  have HZ3 : Hid (sz3.length = 2) := hz3
  have lz3 : 1 < sz3.length := by omega
  have ly3 : 0 < sz3.length := by omega
  have lw3 : (1 : Int) < (sz3.length : Int) := by omega
  have lv3 : (0 : Int) < (sz3.length : Int) := by omega
  clear hq3 hc3 hm3 hn3 hz3
  have t1 : (n1 != m2) = true := by rw [HM1.out.2, HM2.out.1]; simpa using E1.out
  obtain ⟨x11, x12, x3, x4, s64, T⟩ := w8
  have HI1 : Hid (IsC w.heap.size w (some ⟨b1, o1, none⟩) sz1 sc1 ∧ IsC w.heap.size w da1 dz1 dc1 ∧ (∀ j, In64 (nth sz1 j)) ∧ ∀ j, In64 (nth dz1 j)) := ⟨x3, x4, s64, T⟩
  clear x3 x4 T s64
  obtain ⟨x21, x22, x3, x4, s64, T⟩ := w9
  have HI2 : Hid (IsC w.heap.size w (some ⟨b2, o2, none⟩) sz2 sc2 ∧ IsC w.heap.size w da2 dz2 dc2 ∧ (∀ j, In64 (nth sz2 j)) ∧ ∀ j, In64 (nth dz2 j)) := ⟨x3, x4, s64, T⟩
  clear x3 x4 T s64
  obtain ⟨x31, x32, x3, x4, s64, T⟩ := w10
  have HI3 : Hid (IsC w.heap.size w (some ⟨b3, o3, none⟩) sz3 sc3 ∧ IsC w.heap.size w da3 dz3 dc3 ∧ (∀ j, In64 (nth sz3 j)) ∧ ∀ j, In64 (nth dz3 j)) := ⟨x3, x4, s64, T⟩
  clear x3 x4 T s64
  have n1 := Abx.new w (.bool false) (.slice (some ⟨b1, o1, none⟩) sz1.length sc1) (.slice da1 dz1.length dc1)
  have n2 := Abx.new (w.alloc (.cells #[.bool false, .slice (some ⟨b1, o1, none⟩) sz1.length sc1, .slice da1 dz1.length dc1] 25)) (.bool false) (.slice (some ⟨b2, o2, none⟩) sz2.length sc2) (.slice da2 dz2.length dc2)
  simp only [World.size_alloc] at n2
  have n3 := Abx.new ((w.alloc (.cells #[.bool false, .slice (some ⟨b1, o1, none⟩) sz1.length sc1, .slice da1 dz1.length dc1] 25)).alloc (.cells #[.bool false, .slice (some ⟨b2, o2, none⟩) sz2.length sc2, .slice da2 dz2.length dc2] 25)) (.bool false) (.slice (some ⟨b3, o3, none⟩) sz3.length sc3) (.slice da3 dz3.length dc3)
  simp only [World.size_alloc] at n3
  have n4 := lit_mid (((w.alloc (.cells #[.bool false, .slice (some ⟨b1, o1, none⟩) sz1.length sc1, .slice da1 dz1.length dc1] 25)).alloc (.cells #[.bool false, .slice (some ⟨b2, o2, none⟩) sz2.length sc2, .slice da2 dz2.length dc2] 25)).alloc (.cells #[.bool false, .slice (some ⟨b3, o3, none⟩) sz3.length sc3, .slice da3 dz3.length dc3] 25)) 3 [1, 2, 3] 3 rfl
  simp only [World.size_alloc, List.map_cons, List.map_nil] at n4
  go_enter Try.func3, Try.ntmps3
  go_wp2_with fail
  obtain ⟨wo5, hwo5⟩ : ∃ wo5, wo5 = ((((w.alloc (.cells #[.bool false, .slice (some ⟨b1, o1, none⟩) sz1.length sc1, .slice da1 dz1.length dc1] 25)).alloc (.cells #[.bool false, .slice (some ⟨b2, o2, none⟩) sz2.length sc2, .slice da2 dz2.length dc2] 25)).alloc (.cells #[.bool false, .slice (some ⟨b3, o3, none⟩) sz3.length sc3, .slice da3 dz3.length dc3] 25)).alloc (.cells #[.int .i64 1, .int .i64 2, .int .i64 3] 3)) := ⟨_, rfl⟩
  rw [← hwo5]
  have z6 : w.heap.size + 1 + 1 + 1 + 1 ≤ wo5.heap.size := by rw [hwo5]; simp only [World.size_alloc]; omega
  have B7 : Hid (Abx wo5 (w.heap.size) (.bool false) (.slice (some ⟨b1, o1, none⟩) sz1.length sc1) (.slice da1 dz1.length dc1)) := by rw [hwo5]; exact (((n1.al (.cells #[.bool false, .slice (some ⟨b2, o2, none⟩) sz2.length sc2, .slice da2 dz2.length dc2] 25)).al (.cells #[.bool false, .slice (some ⟨b3, o3, none⟩) sz3.length sc3, .slice da3 dz3.length dc3] 25)).al (.cells #[.int .i64 1, .int .i64 2, .int .i64 3] 3))
  have B8 : Hid (Abx wo5 (w.heap.size + 1) (.bool false) (.slice (some ⟨b2, o2, none⟩) sz2.length sc2) (.slice da2 dz2.length dc2)) := by rw [hwo5]; exact ((n2.al (.cells #[.bool false, .slice (some ⟨b3, o3, none⟩) sz3.length sc3, .slice da3 dz3.length dc3] 25)).al (.cells #[.int .i64 1, .int .i64 2, .int .i64 3] 3))
  have B9 : Hid (Abx wo5 (w.heap.size + 1 + 1) (.bool false) (.slice (some ⟨b3, o3, none⟩) sz3.length sc3) (.slice da3 dz3.length dc3)) := by rw [hwo5]; exact (n3.al (.cells #[.int .i64 1, .int .i64 2, .int .i64 3] 3))
  have L10 : Hid (MidC (w.heap.size + 1 + 1 + 1) (w.heap.size + 1 + 1 + 1 + 1) wo5 (some ⟨w.heap.size + 1 + 1 + 1, 0, none⟩) ([1, 2, 3]) (3)) := by rw [hwo5]; exact n4
  have hb11 : Hid (Below w.heap.size w wo5) := by rw [hwo5]; exact (((((Below.refl w.heap.size w).alloc (by omega) (.cells #[.bool false, .slice (some ⟨b1, o1, none⟩) sz1.length sc1, .slice da1 dz1.length dc1] 25)).alloc (by simp only [World.size_alloc]; omega) (.cells #[.bool false, .slice (some ⟨b2, o2, none⟩) sz2.length sc2, .slice da2 dz2.length dc2] 25)).alloc (by simp only [World.size_alloc]; omega) (.cells #[.bool false, .slice (some ⟨b3, o3, none⟩) sz3.length sc3, .slice da3 dz3.length dc3] 25)).alloc (by simp only [World.size_alloc]; omega) (.cells #[.int .i64 1, .int .i64 2, .int .i64 3] 3))
  have zwo5 : w.heap.size ≤ wo5.heap.size := hb11.out.size
  clear hwo5 n1 n2 n3 n4
  refine (vec_c (some ⟨w.heap.size + 1 + 1 + 1, 0, none⟩) 3 [1, 2, 3] (by simp) _ (L10.out.is (by omega)).1).mono ?_
  rintro e v1 ⟨vap, vcp, gap, gcp, rfl, hVp, hGp, hB⟩
  have z12 : wo5.heap.size ≤ v1.heap.size := hB.size
  have B13 : Hid (Abx v1 (w.heap.size) (.bool false) (.slice (some ⟨b1, o1, none⟩) sz1.length sc1) (.slice da1 dz1.length dc1)) := B7.out.go hB
  have B14 : Hid (Abx v1 (w.heap.size + 1) (.bool false) (.slice (some ⟨b2, o2, none⟩) sz2.length sc2) (.slice da2 dz2.length dc2)) := B8.out.go hB
  have B15 : Hid (Abx v1 (w.heap.size + 1 + 1) (.bool false) (.slice (some ⟨b3, o3, none⟩) sz3.length sc3) (.slice da3 dz3.length dc3)) := B9.out.go hB
  have L16 : Hid (MidC (w.heap.size + 1 + 1 + 1) (w.heap.size + 1 + 1 + 1 + 1) v1 (some ⟨w.heap.size + 1 + 1 + 1, 0, none⟩) ([1, 2, 3]) (3)) := L10.out.go (by omega) hB
  have hb17 : Hid (Below w.heap.size w v1) := hb11.out.trans (hB.mono hb11.out.size)
  have L18 : Hid (MidC (wo5.heap.size) (v1.heap.size) v1 (vap) ([(3 : Int)]) (vcp)) := hVp.midc
  have L19 : Hid (MidC (wo5.heap.size) (v1.heap.size) v1 (gap) ([1, 2, 3]) (gcp)) := hGp.midc
  clear hB hb11 B7 B8 B9 L10 hVp hGp
  clear L16
  have n20 := lit_mid v1 3 [4, 5, 6] 3 rfl
  simp only [List.map_cons, List.map_nil] at n20
  go_wp2_with fail
  obtain ⟨wo21, hwo21⟩ : ∃ wo21, wo21 = (v1.alloc (.cells #[.int .i64 4, .int .i64 5, .int .i64 6] 3)) := ⟨_, rfl⟩
  rw [← hwo21]
  have z22 : v1.heap.size + 1 ≤ wo21.heap.size := by rw [hwo21]; simp only [World.size_alloc]; omega
  have B23 : Hid (Abx wo21 (w.heap.size) (.bool false) (.slice (some ⟨b1, o1, none⟩) sz1.length sc1) (.slice da1 dz1.length dc1)) := by rw [hwo21]; exact (B13.out.al (.cells #[.int .i64 4, .int .i64 5, .int .i64 6] 3))
  have B24 : Hid (Abx wo21 (w.heap.size + 1) (.bool false) (.slice (some ⟨b2, o2, none⟩) sz2.length sc2) (.slice da2 dz2.length dc2)) := by rw [hwo21]; exact (B14.out.al (.cells #[.int .i64 4, .int .i64 5, .int .i64 6] 3))
  have B25 : Hid (Abx wo21 (w.heap.size + 1 + 1) (.bool false) (.slice (some ⟨b3, o3, none⟩) sz3.length sc3) (.slice da3 dz3.length dc3)) := by rw [hwo21]; exact (B15.out.al (.cells #[.int .i64 4, .int .i64 5, .int .i64 6] 3))
  have L26 : Hid (MidC (wo5.heap.size) (v1.heap.size) wo21 (vap) ([(3 : Int)]) (vcp)) := by rw [hwo21]; exact (L18.out.al (by omega) (.cells #[.int .i64 4, .int .i64 5, .int .i64 6] 3))
  have L27 : Hid (MidC (wo5.heap.size) (v1.heap.size) wo21 (gap) ([1, 2, 3]) (gcp)) := by rw [hwo21]; exact (L19.out.al (by omega) (.cells #[.int .i64 4, .int .i64 5, .int .i64 6] 3))
  have L28 : Hid (MidC (v1.heap.size) (v1.heap.size + 1) wo21 (some ⟨v1.heap.size, 0, none⟩) ([4, 5, 6]) (3)) := by rw [hwo21]; exact n20
  have hb29 : Hid (Below w.heap.size w wo21) := by rw [hwo21]; exact (hb17.out.alloc (by omega) (.cells #[.int .i64 4, .int .i64 5, .int .i64 6] 3))
  have zwo21 : w.heap.size ≤ wo21.heap.size := hb29.out.size
  clear hwo21 n20 hb17 B13 B14 B15 L18 L19
  refine (vec_c (some ⟨v1.heap.size, 0, none⟩) 3 [4, 5, 6] (by simp) _ (L28.out.is (by omega)).1).mono ?_
  rintro e v2 ⟨vaq, vcq, gaq, gcq, rfl, hVq, hGq, hB⟩
  have z30 : wo21.heap.size ≤ v2.heap.size := hB.size
  have B31 : Hid (Abx v2 (w.heap.size) (.bool false) (.slice (some ⟨b1, o1, none⟩) sz1.length sc1) (.slice da1 dz1.length dc1)) := B23.out.go hB
  have B32 : Hid (Abx v2 (w.heap.size + 1) (.bool false) (.slice (some ⟨b2, o2, none⟩) sz2.length sc2) (.slice da2 dz2.length dc2)) := B24.out.go hB
  have B33 : Hid (Abx v2 (w.heap.size + 1 + 1) (.bool false) (.slice (some ⟨b3, o3, none⟩) sz3.length sc3) (.slice da3 dz3.length dc3)) := B25.out.go hB
  have L34 : Hid (MidC (wo5.heap.size) (v1.heap.size) v2 (vap) ([(3 : Int)]) (vcp)) := L26.out.go (by omega) hB
  have L35 : Hid (MidC (wo5.heap.size) (v1.heap.size) v2 (gap) ([1, 2, 3]) (gcp)) := L27.out.go (by omega) hB
  have L36 : Hid (MidC (v1.heap.size) (v1.heap.size + 1) v2 (some ⟨v1.heap.size, 0, none⟩) ([4, 5, 6]) (3)) := L28.out.go (by omega) hB
  have hb37 : Hid (Below w.heap.size w v2) := hb29.out.trans (hB.mono hb29.out.size)
  have L38 : Hid (MidC (wo21.heap.size) (v2.heap.size) v2 (vaq) ([(3 : Int)]) (vcq)) := hVq.midc
  have L39 : Hid (MidC (wo21.heap.size) (v2.heap.size) v2 (gaq) ([4, 5, 6]) (gcq)) := hGq.midc
  clear hB hb29 B23 B24 B25 L26 L27 L28 hVq hGq
  clear L36
  go_wp2_with fail
  refine (niw_ok 1 3 false vap vcp [(3 : Int)] 1 rfl gap gcp [1, 2, 3] 3 rfl false vaq vcq [(3 : Int)] 1 rfl gaq gcq [4, 5, 6] 3 rfl _ (by unfold In64; decide) (by unfold In64; decide) (by decide) (by decide) (L34.out.is (by omega)) (L35.out.is (by omega)).1 (lit12 (by decide)) (by decide) (by decide) (L38.out.is (by omega)) (L39.out.is (by omega)).1 (lit12 (by decide)) [] [32] HNi (by show inE 1 3 false [(3 : Int)] [1, 2, 3] false [(3 : Int)] [4, 5, 6] = 0 ∧ inS [(3 : Int)] [(3 : Int)] = [] ∧ inD 1 3 false [(3 : Int)] [1, 2, 3] false [(3 : Int)] [4, 5, 6] = [32]; decide +kernel)).mono ?_
  rintro e v3 ⟨f1, g1, f2, g2, rfl, hX0, hY0, hB⟩
  have z40 : v2.heap.size ≤ v3.heap.size := hB.size
  have B41 : Hid (Abx v3 (w.heap.size) (.bool false) (.slice (some ⟨b1, o1, none⟩) sz1.length sc1) (.slice da1 dz1.length dc1)) := B31.out.go hB
  have B42 : Hid (Abx v3 (w.heap.size + 1) (.bool false) (.slice (some ⟨b2, o2, none⟩) sz2.length sc2) (.slice da2 dz2.length dc2)) := B32.out.go hB
  have B43 : Hid (Abx v3 (w.heap.size + 1 + 1) (.bool false) (.slice (some ⟨b3, o3, none⟩) sz3.length sc3) (.slice da3 dz3.length dc3)) := B33.out.go hB
  have L44 : Hid (MidC (wo5.heap.size) (v1.heap.size) v3 (vap) ([(3 : Int)]) (vcp)) := L34.out.go (by omega) hB
  have L45 : Hid (MidC (wo5.heap.size) (v1.heap.size) v3 (gap) ([1, 2, 3]) (gcp)) := L35.out.go (by omega) hB
  have L46 : Hid (MidC (wo21.heap.size) (v2.heap.size) v3 (vaq) ([(3 : Int)]) (vcq)) := L38.out.go (by omega) hB
  have L47 : Hid (MidC (wo21.heap.size) (v2.heap.size) v3 (gaq) ([4, 5, 6]) (gcq)) := L39.out.go (by omega) hB
  have hb48 : Hid (Below w.heap.size w v3) := hb37.out.trans (hB.mono hb37.out.size)
  have L49 : Hid (MidC (v2.heap.size) (v3.heap.size) v3 (f1) ([]) (g1)) := hX0.midc
  have L50 : Hid (MidC (v2.heap.size) (v3.heap.size) v3 (f2) ([32]) (g2)) := hY0.midc
  clear hB hb37 B31 B32 B33 L34 L35 L38 L39 hX0 hY0
  clear L44 L45 L46 L47
  obtain ⟨b51, ob51, rfl, _, _, _, _⟩ := L50.out.at (i := 0) (by decide)
  have n52 := Abx.new v3 (.bool false) (.slice f1 0 g1) (.slice (some ⟨b51, ob51, none⟩) 1 g2)
  have l53 := (n52).c0
  have l54 := (n52).c1
  have l55 := (n52).c2
  obtain ⟨_, _, l56e, _, _, l56, _⟩ := ((L50.out.al (by omega) (.cells #[.bool false, .slice f1 0 g1, .slice (some ⟨b51, ob51, none⟩) 1 g2] 25))).at (i := 0) (by decide)
  cases l56e
  try simp only [Nat.add_zero] at l56
  go_wp2_with fail
  obtain ⟨wo57, hwo57⟩ : ∃ wo57, wo57 = (v3.alloc (.cells #[.bool false, .slice f1 0 g1, .slice (some ⟨b51, ob51, none⟩) 1 g2] 25)) := ⟨_, rfl⟩
  rw [← hwo57]
  have z58 : v3.heap.size + 1 ≤ wo57.heap.size := by rw [hwo57]; simp only [World.size_alloc]; omega
  have B59 : Hid (Abx wo57 (w.heap.size) (.bool false) (.slice (some ⟨b1, o1, none⟩) sz1.length sc1) (.slice da1 dz1.length dc1)) := by rw [hwo57]; exact (B41.out.al (.cells #[.bool false, .slice f1 0 g1, .slice (some ⟨b51, ob51, none⟩) 1 g2] 25))
  have B60 : Hid (Abx wo57 (w.heap.size + 1) (.bool false) (.slice (some ⟨b2, o2, none⟩) sz2.length sc2) (.slice da2 dz2.length dc2)) := by rw [hwo57]; exact (B42.out.al (.cells #[.bool false, .slice f1 0 g1, .slice (some ⟨b51, ob51, none⟩) 1 g2] 25))
  have B61 : Hid (Abx wo57 (w.heap.size + 1 + 1) (.bool false) (.slice (some ⟨b3, o3, none⟩) sz3.length sc3) (.slice da3 dz3.length dc3)) := by rw [hwo57]; exact (B43.out.al (.cells #[.bool false, .slice f1 0 g1, .slice (some ⟨b51, ob51, none⟩) 1 g2] 25))
  have B62 : Hid (Abx wo57 (v3.heap.size) (.bool false) (.slice f1 0 g1) (.slice (some ⟨b51, ob51, none⟩) 1 g2)) := by rw [hwo57]; exact n52
  have L63 : Hid (MidC (v2.heap.size) (v3.heap.size) wo57 (f1) ([]) (g1)) := by rw [hwo57]; exact (L49.out.al (by omega) (.cells #[.bool false, .slice f1 0 g1, .slice (some ⟨b51, ob51, none⟩) 1 g2] 25))
  have L64 : Hid (MidC (v2.heap.size) (v3.heap.size) wo57 (some ⟨b51, ob51, none⟩) ([32]) (g2)) := by rw [hwo57]; exact (L50.out.al (by omega) (.cells #[.bool false, .slice f1 0 g1, .slice (some ⟨b51, ob51, none⟩) 1 g2] 25))
  have hb65 : Hid (Below w.heap.size w wo57) := by rw [hwo57]; exact (hb48.out.alloc (by omega) (.cells #[.bool false, .slice f1 0 g1, .slice (some ⟨b51, ob51, none⟩) 1 g2] 25))
  have zwo57 : w.heap.size ≤ wo57.heap.size := hb65.out.size
  clear hwo57 n52 l53 l54 l55 l56 hb48 B41 B42 B43 L49 L50
  clear L63 L64 B62
  have sx11 : wo57.cell? ⟨b1, o1 + 1, none⟩ = some (.int .i64 n1) := (hb65.out.cell (p := ⟨b1, o1 + 1, none⟩) HC1.out.1).trans HC1.out.2.2
  have sx20 : wo57.cell? ⟨b2, o2, none⟩ = some (.int .i64 m2) := (hb65.out.cell (p := ⟨b2, o2, none⟩) HC2.out.1).trans HC2.out.2.1
  have sx21 : wo57.cell? ⟨b2, o2 + 1, none⟩ = some (.int .i64 n2) := (hb65.out.cell (p := ⟨b2, o2 + 1, none⟩) HC2.out.1).trans HC2.out.2.2
  have sx30 : wo57.cell? ⟨b3, o3, none⟩ = some (.int .i64 m3) := (hb65.out.cell (p := ⟨b3, o3, none⟩) HC3.out.1).trans HC3.out.2.1
  have hb0 : Below wo57.heap.size wo57 wo57.drew := (Below.refl _ wo57).drew
  refine anyC_begin (fun w' => w'.cell? ⟨w.heap.size, 0, none⟩ = some (.bool false) ∧ w'.cell? ⟨w.heap.size, 1, none⟩ = some (.slice (some ⟨b1, o1, none⟩) sz1.length sc1) ∧ w'.cell? ⟨w.heap.size, 2, none⟩ = some (.slice da1 dz1.length dc1) ∧ w'.cell? ⟨w.heap.size + 1, 0, none⟩ = some (.bool false) ∧ w'.cell? ⟨w.heap.size + 1, 1, none⟩ = some (.slice (some ⟨b2, o2, none⟩) sz2.length sc2) ∧ w'.cell? ⟨w.heap.size + 1, 2, none⟩ = some (.slice da2 dz2.length dc2) ∧ w'.cell? ⟨w.heap.size + 1 + 1, 0, none⟩ = some (.bool false) ∧ w'.cell? ⟨w.heap.size + 1 + 1, 1, none⟩ = some (.slice (some ⟨b3, o3, none⟩) sz3.length sc3) ∧ w'.cell? ⟨w.heap.size + 1 + 1, 2, none⟩ = some (.slice da3 dz3.length dc3) ∧ w'.cell? ⟨b1, o1 + 1, none⟩ = some (.int .i64 n1) ∧ w'.cell? ⟨b2, o2, none⟩ = some (.int .i64 m2) ∧ w'.cell? ⟨b2, o2 + 1, none⟩ = some (.int .i64 n2) ∧ w'.cell? ⟨b3, o3, none⟩ = some (.int .i64 m3)) 41 #[false, false, false, false, false, false, false, false, false, false, false, false, false, false, false, false, false, false, false, false, false, false, false, false, false, false, false, false, false, false, false, false, false, false, false, false, false, false, false, false, false] (by kernel_rfl) rfl rfl ?_
  refine anyC_put 0 43 ?rv174 #[true, false, false, false, false, false, false, false, false, false, false, false, false, false, false, false, false, false, false, false, false, false, false, false, false, false, false, false, false, false, false, false, false, false, false, false, false, false, false, false, false] rfl rfl rfl (by kernel_rfl) (by kernel_rfl) (by kernel_rfl) (fun _ _ _ h => h) ?ry174 (⟨(B59.out.go hb0).c0, (B59.out.go hb0).c1, (B59.out.go hb0).c2, (B60.out.go hb0).c0, (B60.out.go hb0).c1, (B60.out.go hb0).c2, (B61.out.go hb0).c0, (B61.out.go hb0).c1, (B61.out.go hb0).c2, cell_to sx11 hb0, cell_to sx20 hb0, cell_to sx21 hb0, cell_to sx30 hb0⟩) ?rm174
  case ry174 => first | exact Or.inl ⟨by rfl, by intro w'; go_simp; first | done | rfl⟩
  case rm174 =>
  simp only [Act.put, List.setIfInBounds_toArray, List.set_cons_zero, List.set_cons_succ]
  refine anyC_put 1 44 ?rv175 #[true, true, false, false, false, false, false, false, false, false, false, false, false, false, false, false, false, false, false, false, false, false, false, false, false, false, false, false, false, false, false, false, false, false, false, false, false, false, false, false, false] rfl rfl rfl (by kernel_rfl) (by kernel_rfl) (by kernel_rfl) (fun _ _ _ h => h) ?ry175 (⟨(B59.out.go hb0).c0, (B59.out.go hb0).c1, (B59.out.go hb0).c2, (B60.out.go hb0).c0, (B60.out.go hb0).c1, (B60.out.go hb0).c2, (B61.out.go hb0).c0, (B61.out.go hb0).c1, (B61.out.go hb0).c2, cell_to sx11 hb0, cell_to sx20 hb0, cell_to sx21 hb0, cell_to sx30 hb0⟩) ?rm175
  case ry175 => first | exact Or.inl ⟨by rfl, by intro w'; go_simp; first | done | rfl⟩
  case rm175 =>
  simp only [Act.put, List.setIfInBounds_toArray, List.set_cons_zero, List.set_cons_succ]
  refine anyC_one 2 #[true, true, true, false, false, false, false, false, false, false, false, false, false, false, false, false, false, false, false, false, false, false, false, false, false, false, false, false, false, false, false, false, false, false, false, false, false, false, false, false, false] (by kernel_rfl) rfl rfl (fun K hK => ?_)
  go_simp
  go_wp2_with (go_at_call 9; refine (sring_any f g _).mono ?_; rintro e ysr ⟨rfl, hysr⟩; obtain rfl := hysr.symm; rw [srB_yes GS.out])
  refine hK.out _ _ (⟨(B59.out.go hb0).c0, (B59.out.go hb0).c1, (B59.out.go hb0).c2, (B60.out.go hb0).c0, (B60.out.go hb0).c1, (B60.out.go hb0).c2, (B61.out.go hb0).c0, (B61.out.go hb0).c1, (B61.out.go hb0).c2, cell_to sx11 hb0, cell_to sx20 hb0, cell_to sx21 hb0, cell_to sx30 hb0⟩) ?_
  clear hK K
  refine anyC_put 3 46 ?rv177 #[true, true, true, true, false, false, false, false, false, false, false, false, false, false, false, false, false, false, false, false, false, false, false, false, false, false, false, false, false, false, false, false, false, false, false, false, false, false, false, false, false] rfl rfl rfl (by kernel_rfl) (by kernel_rfl) (by kernel_rfl) (fun _ _ _ h => h) ?ry177 (⟨(B59.out.go hb0).c0, (B59.out.go hb0).c1, (B59.out.go hb0).c2, (B60.out.go hb0).c0, (B60.out.go hb0).c1, (B60.out.go hb0).c2, (B61.out.go hb0).c0, (B61.out.go hb0).c1, (B61.out.go hb0).c2, cell_to sx11 hb0, cell_to sx20 hb0, cell_to sx21 hb0, cell_to sx30 hb0⟩) ?rm177
  case ry177 => first | exact Or.inl ⟨by rfl, by intro w'; go_simp; first | done | rfl⟩
  case rm177 =>
  simp only [Act.put, List.setIfInBounds_toArray, List.set_cons_zero, List.set_cons_succ]
  refine anyC_put 4 47 ?rv178 #[true, true, true, true, true, false, false, false, false, false, false, false, false, false, false, false, false, false, false, false, false, false, false, false, false, false, false, false, false, false, false, false, false, false, false, false, false, false, false, false, false] rfl rfl rfl (by kernel_rfl) (by kernel_rfl) (by kernel_rfl) (fun _ _ _ h => h) ?ry178 (⟨(B59.out.go hb0).c0, (B59.out.go hb0).c1, (B59.out.go hb0).c2, (B60.out.go hb0).c0, (B60.out.go hb0).c1, (B60.out.go hb0).c2, (B61.out.go hb0).c0, (B61.out.go hb0).c1, (B61.out.go hb0).c2, cell_to sx11 hb0, cell_to sx20 hb0, cell_to sx21 hb0, cell_to sx30 hb0⟩) ?rm178
  case ry178 => first | exact Or.inl ⟨by rfl, by intro w'; go_simp; first | done | rfl⟩
  case rm178 =>
  simp only [Act.put, List.setIfInBounds_toArray, List.set_cons_zero, List.set_cons_succ]
  refine anyC_take 5 48 ?rv179 #[true, true, true, true, true, true, false, false, false, false, false, false, false, false, false, false, false, false, false, false, false, false, false, false, false, false, false, false, false, false, false, false, false, false, false, false, false, false, false, false, false] rfl rfl rfl (by kernel_rfl) (by kernel_rfl) (by kernel_rfl) (fun _ _ _ h => h) ?ry179 (⟨(B59.out.go hb0).c0, (B59.out.go hb0).c1, (B59.out.go hb0).c2, (B60.out.go hb0).c0, (B60.out.go hb0).c1, (B60.out.go hb0).c2, (B61.out.go hb0).c0, (B61.out.go hb0).c1, (B61.out.go hb0).c2, cell_to sx11 hb0, cell_to sx20 hb0, cell_to sx21 hb0, cell_to sx30 hb0⟩) ?rm179
  case ry179 => first | exact Or.inl ⟨by rfl, by intro w' hw'; (try dsimp only at hw'); go_simp; first | done | rfl⟩ | exact Or.inr ⟨by rfl, rfl⟩ | exact Or.inr ⟨by rfl, by rfl⟩
  case rm179 =>
  simp only [Act.put, List.setIfInBounds_toArray, List.set_cons_zero, List.set_cons_succ]
  refine anyC_one 6 #[true, true, true, true, true, true, true, false, false, false, false, false, false, false, false, false, false, false, false, false, false, false, false, false, false, false, false, false, false, false, false, false, false, false, false, false, false, false, false, false, false] (by kernel_rfl) rfl rfl (fun K hK => ?_)
  go_simp
  go_wp2_with (go_at_call 10; refine (grid_yes 16 (by decide) false (some ⟨b1, o1, none⟩) sc1 sz1 da1 dc1 dz1 _ ((HI1.out.1.1.below (hb65.out.trans (hb0.mono hb65.out.size))).mono (hb65.out.trans (hb0.mono hb65.out.size)).size) G1.out).mono ?_; rintro e y1 ⟨rfl, hBy1⟩)
  have hby1 : Below wo57.heap.size wo57 y1 := hb0.trans (hBy1.mono hb0.size)
  refine hK.out _ _ (⟨(B59.out.go hby1).c0, (B59.out.go hby1).c1, (B59.out.go hby1).c2, (B60.out.go hby1).c0, (B60.out.go hby1).c1, (B60.out.go hby1).c2, (B61.out.go hby1).c0, (B61.out.go hby1).c1, (B61.out.go hby1).c2, cell_to sx11 hby1, cell_to sx20 hby1, cell_to sx21 hby1, cell_to sx30 hby1⟩) ?_
  clear hK K
  refine anyC_put 7 50 ?rv181 #[true, true, true, true, true, true, true, true, false, false, false, false, false, false, false, false, false, false, false, false, false, false, false, false, false, false, false, false, false, false, false, false, false, false, false, false, false, false, false, false, false] rfl rfl rfl (by kernel_rfl) (by kernel_rfl) (by kernel_rfl) (fun _ _ _ h => h) ?ry181 (⟨(B59.out.go hby1).c0, (B59.out.go hby1).c1, (B59.out.go hby1).c2, (B60.out.go hby1).c0, (B60.out.go hby1).c1, (B60.out.go hby1).c2, (B61.out.go hby1).c0, (B61.out.go hby1).c1, (B61.out.go hby1).c2, cell_to sx11 hby1, cell_to sx20 hby1, cell_to sx21 hby1, cell_to sx30 hby1⟩) ?rm181
  case ry181 => first | exact Or.inl ⟨by rfl, by intro w'; go_simp; first | done | rfl⟩ | exact Or.inr ⟨by rfl, rfl⟩ | exact Or.inr ⟨by rfl, by rfl⟩
  case rm181 =>
  simp only [Act.put, List.setIfInBounds_toArray, List.set_cons_zero, List.set_cons_succ]
  refine anyC_put 8 51 ?rv182 #[true, true, true, true, true, true, true, true, true, false, false, false, false, false, false, false, false, false, false, false, false, false, false, false, false, false, false, false, false, false, false, false, false, false, false, false, false, false, false, false, false] rfl rfl rfl (by kernel_rfl) (by kernel_rfl) (by kernel_rfl) (fun _ _ _ h => h) ?ry182 (⟨(B59.out.go hby1).c0, (B59.out.go hby1).c1, (B59.out.go hby1).c2, (B60.out.go hby1).c0, (B60.out.go hby1).c1, (B60.out.go hby1).c2, (B61.out.go hby1).c0, (B61.out.go hby1).c1, (B61.out.go hby1).c2, cell_to sx11 hby1, cell_to sx20 hby1, cell_to sx21 hby1, cell_to sx30 hby1⟩) ?rm182
  case ry182 => first | exact Or.inl ⟨by rfl, by intro w'; go_simp; first | done | rfl⟩
  case rm182 =>
  simp only [Act.put, List.setIfInBounds_toArray, List.set_cons_zero, List.set_cons_succ]
  refine anyC_put 9 52 ?rv183 #[true, true, true, true, true, true, true, true, true, true, false, false, false, false, false, false, false, false, false, false, false, false, false, false, false, false, false, false, false, false, false, false, false, false, false, false, false, false, false, false, false] rfl rfl rfl (by kernel_rfl) (by kernel_rfl) (by kernel_rfl) (fun _ _ _ h => h) ?ry183 (⟨(B59.out.go hby1).c0, (B59.out.go hby1).c1, (B59.out.go hby1).c2, (B60.out.go hby1).c0, (B60.out.go hby1).c1, (B60.out.go hby1).c2, (B61.out.go hby1).c0, (B61.out.go hby1).c1, (B61.out.go hby1).c2, cell_to sx11 hby1, cell_to sx20 hby1, cell_to sx21 hby1, cell_to sx30 hby1⟩) ?rm183
  case ry183 => first | exact Or.inl ⟨by rfl, by intro w'; go_simp; first | done | rfl⟩
  case rm183 =>
  simp only [Act.put, List.setIfInBounds_toArray, List.set_cons_zero, List.set_cons_succ]
  refine anyC_take 10 53 ?rv184 #[true, true, true, true, true, true, true, true, true, true, true, false, false, false, false, false, false, false, false, false, false, false, false, false, false, false, false, false, false, false, false, false, false, false, false, false, false, false, false, false, false] rfl rfl rfl (by kernel_rfl) (by kernel_rfl) (by kernel_rfl) (fun _ _ _ h => h) ?ry184 (⟨(B59.out.go hby1).c0, (B59.out.go hby1).c1, (B59.out.go hby1).c2, (B60.out.go hby1).c0, (B60.out.go hby1).c1, (B60.out.go hby1).c2, (B61.out.go hby1).c0, (B61.out.go hby1).c1, (B61.out.go hby1).c2, cell_to sx11 hby1, cell_to sx20 hby1, cell_to sx21 hby1, cell_to sx30 hby1⟩) ?rm184
  case ry184 => first | exact Or.inl ⟨by rfl, by intro w' hw'; (try dsimp only at hw'); go_simp; first | done | rfl⟩ | exact Or.inr ⟨by rfl, rfl⟩ | exact Or.inr ⟨by rfl, by rfl⟩
  case rm184 =>
  simp only [Act.put, List.setIfInBounds_toArray, List.set_cons_zero, List.set_cons_succ]
  refine anyC_one 11 #[true, true, true, true, true, true, true, true, true, true, true, true, false, false, false, false, false, false, false, false, false, false, false, false, false, false, false, false, false, false, false, false, false, false, false, false, false, false, false, false, false] (by kernel_rfl) rfl rfl (fun K hK => ?_)
  go_simp
  go_wp2_with (go_at_call 10; refine (grid_yes 16 (by decide) false (some ⟨b2, o2, none⟩) sc2 sz2 da2 dc2 dz2 _ ((HI2.out.1.1.below (hb65.out.trans (hby1.mono hb65.out.size))).mono (hb65.out.trans (hby1.mono hb65.out.size)).size) G2.out).mono ?_; rintro e y2 ⟨rfl, hBy2⟩)
  have hby2 : Below wo57.heap.size wo57 y2 := hby1.trans (hBy2.mono hby1.size)
  refine hK.out _ _ (⟨(B59.out.go hby2).c0, (B59.out.go hby2).c1, (B59.out.go hby2).c2, (B60.out.go hby2).c0, (B60.out.go hby2).c1, (B60.out.go hby2).c2, (B61.out.go hby2).c0, (B61.out.go hby2).c1, (B61.out.go hby2).c2, cell_to sx11 hby2, cell_to sx20 hby2, cell_to sx21 hby2, cell_to sx30 hby2⟩) ?_
  clear hK K
  refine anyC_put 12 55 ?rv186 #[true, true, true, true, true, true, true, true, true, true, true, true, true, false, false, false, false, false, false, false, false, false, false, false, false, false, false, false, false, false, false, false, false, false, false, false, false, false, false, false, false] rfl rfl rfl (by kernel_rfl) (by kernel_rfl) (by kernel_rfl) (fun _ _ _ h => h) ?ry186 (⟨(B59.out.go hby2).c0, (B59.out.go hby2).c1, (B59.out.go hby2).c2, (B60.out.go hby2).c0, (B60.out.go hby2).c1, (B60.out.go hby2).c2, (B61.out.go hby2).c0, (B61.out.go hby2).c1, (B61.out.go hby2).c2, cell_to sx11 hby2, cell_to sx20 hby2, cell_to sx21 hby2, cell_to sx30 hby2⟩) ?rm186
  case ry186 => first | exact Or.inl ⟨by rfl, by intro w'; go_simp; first | done | rfl⟩ | exact Or.inr ⟨by rfl, rfl⟩ | exact Or.inr ⟨by rfl, by rfl⟩
  case rm186 =>
  simp only [Act.put, List.setIfInBounds_toArray, List.set_cons_zero, List.set_cons_succ]
  refine anyC_put 13 56 ?rv187 #[true, true, true, true, true, true, true, true, true, true, true, true, true, true, false, false, false, false, false, false, false, false, false, false, false, false, false, false, false, false, false, false, false, false, false, false, false, false, false, false, false] rfl rfl rfl (by kernel_rfl) (by kernel_rfl) (by kernel_rfl) (fun _ _ _ h => h) ?ry187 (⟨(B59.out.go hby2).c0, (B59.out.go hby2).c1, (B59.out.go hby2).c2, (B60.out.go hby2).c0, (B60.out.go hby2).c1, (B60.out.go hby2).c2, (B61.out.go hby2).c0, (B61.out.go hby2).c1, (B61.out.go hby2).c2, cell_to sx11 hby2, cell_to sx20 hby2, cell_to sx21 hby2, cell_to sx30 hby2⟩) ?rm187
  case ry187 => first | exact Or.inl ⟨by rfl, by intro w'; go_simp; first | done | rfl⟩
  case rm187 =>
  simp only [Act.put, List.setIfInBounds_toArray, List.set_cons_zero, List.set_cons_succ]
  refine anyC_put 14 57 ?rv188 #[true, true, true, true, true, true, true, true, true, true, true, true, true, true, true, false, false, false, false, false, false, false, false, false, false, false, false, false, false, false, false, false, false, false, false, false, false, false, false, false, false] rfl rfl rfl (by kernel_rfl) (by kernel_rfl) (by kernel_rfl) (fun _ _ _ h => h) ?ry188 (⟨(B59.out.go hby2).c0, (B59.out.go hby2).c1, (B59.out.go hby2).c2, (B60.out.go hby2).c0, (B60.out.go hby2).c1, (B60.out.go hby2).c2, (B61.out.go hby2).c0, (B61.out.go hby2).c1, (B61.out.go hby2).c2, cell_to sx11 hby2, cell_to sx20 hby2, cell_to sx21 hby2, cell_to sx30 hby2⟩) ?rm188
  case ry188 => first | exact Or.inl ⟨by rfl, by intro w'; go_simp; first | done | rfl⟩
  case rm188 =>
  simp only [Act.put, List.setIfInBounds_toArray, List.set_cons_zero, List.set_cons_succ]
  refine anyC_take 15 58 ?rv189 #[true, true, true, true, true, true, true, true, true, true, true, true, true, true, true, true, false, false, false, false, false, false, false, false, false, false, false, false, false, false, false, false, false, false, false, false, false, false, false, false, false] rfl rfl rfl (by kernel_rfl) (by kernel_rfl) (by kernel_rfl) (fun _ _ _ h => h) ?ry189 (⟨(B59.out.go hby2).c0, (B59.out.go hby2).c1, (B59.out.go hby2).c2, (B60.out.go hby2).c0, (B60.out.go hby2).c1, (B60.out.go hby2).c2, (B61.out.go hby2).c0, (B61.out.go hby2).c1, (B61.out.go hby2).c2, cell_to sx11 hby2, cell_to sx20 hby2, cell_to sx21 hby2, cell_to sx30 hby2⟩) ?rm189
  case ry189 => first | exact Or.inl ⟨by rfl, by intro w' hw'; (try dsimp only at hw'); go_simp; first | done | rfl⟩ | exact Or.inr ⟨by rfl, rfl⟩ | exact Or.inr ⟨by rfl, by rfl⟩
  case rm189 =>
  simp only [Act.put, List.setIfInBounds_toArray, List.set_cons_zero, List.set_cons_succ]
  refine anyC_one 16 #[true, true, true, true, true, true, true, true, true, true, true, true, true, true, true, true, true, false, false, false, false, false, false, false, false, false, false, false, false, false, false, false, false, false, false, false, false, false, false, false, false] (by kernel_rfl) rfl rfl (fun K hK => ?_)
  go_simp
  go_wp2_with (go_at_call 10; refine (grid_yes 16 (by decide) false (some ⟨b3, o3, none⟩) sc3 sz3 da3 dc3 dz3 _ ((HI3.out.1.1.below (hb65.out.trans (hby2.mono hb65.out.size))).mono (hb65.out.trans (hby2.mono hb65.out.size)).size) G3.out).mono ?_; rintro e y3 ⟨rfl, hBy3⟩)
  have hby3 : Below wo57.heap.size wo57 y3 := hby2.trans (hBy3.mono hby2.size)
  refine hK.out _ _ (⟨(B59.out.go hby3).c0, (B59.out.go hby3).c1, (B59.out.go hby3).c2, (B60.out.go hby3).c0, (B60.out.go hby3).c1, (B60.out.go hby3).c2, (B61.out.go hby3).c0, (B61.out.go hby3).c1, (B61.out.go hby3).c2, cell_to sx11 hby3, cell_to sx20 hby3, cell_to sx21 hby3, cell_to sx30 hby3⟩) ?_
  clear hK K
  refine anyC_put 17 60 ?rv191 #[true, true, true, true, true, true, true, true, true, true, true, true, true, true, true, true, true, true, false, false, false, false, false, false, false, false, false, false, false, false, false, false, false, false, false, false, false, false, false, false, false] rfl rfl rfl (by kernel_rfl) (by kernel_rfl) (by kernel_rfl) (fun _ _ _ h => h) ?ry191 (⟨(B59.out.go hby3).c0, (B59.out.go hby3).c1, (B59.out.go hby3).c2, (B60.out.go hby3).c0, (B60.out.go hby3).c1, (B60.out.go hby3).c2, (B61.out.go hby3).c0, (B61.out.go hby3).c1, (B61.out.go hby3).c2, cell_to sx11 hby3, cell_to sx20 hby3, cell_to sx21 hby3, cell_to sx30 hby3⟩) ?rm191
  case ry191 => first | exact Or.inl ⟨by rfl, by intro w'; go_simp; first | done | rfl⟩ | exact Or.inr ⟨by rfl, rfl⟩ | exact Or.inr ⟨by rfl, by rfl⟩
  case rm191 =>
  simp only [Act.put, List.setIfInBounds_toArray, List.set_cons_zero, List.set_cons_succ]
  refine anyC_put 18 61 ?rv192 #[true, true, true, true, true, true, true, true, true, true, true, true, true, true, true, true, true, true, true, false, false, false, false, false, false, false, false, false, false, false, false, false, false, false, false, false, false, false, false, false, false] rfl rfl rfl (by kernel_rfl) (by kernel_rfl) (by kernel_rfl) (fun _ _ _ h => h) ?ry192 (⟨(B59.out.go hby3).c0, (B59.out.go hby3).c1, (B59.out.go hby3).c2, (B60.out.go hby3).c0, (B60.out.go hby3).c1, (B60.out.go hby3).c2, (B61.out.go hby3).c0, (B61.out.go hby3).c1, (B61.out.go hby3).c2, cell_to sx11 hby3, cell_to sx20 hby3, cell_to sx21 hby3, cell_to sx30 hby3⟩) ?rm192
  case ry192 => first | exact Or.inl ⟨by rfl, by intro w'; go_simp; first | done | rfl⟩
  case rm192 =>
  simp only [Act.put, List.setIfInBounds_toArray, List.set_cons_zero, List.set_cons_succ]
  refine anyC_put 19 62 ?rv193 #[true, true, true, true, true, true, true, true, true, true, true, true, true, true, true, true, true, true, true, true, false, false, false, false, false, false, false, false, false, false, false, false, false, false, false, false, false, false, false, false, false] rfl rfl rfl (by kernel_rfl) (by kernel_rfl) (by kernel_rfl) (fun _ _ _ h => h) ?ry193 (⟨(B59.out.go hby3).c0, (B59.out.go hby3).c1, (B59.out.go hby3).c2, (B60.out.go hby3).c0, (B60.out.go hby3).c1, (B60.out.go hby3).c2, (B61.out.go hby3).c0, (B61.out.go hby3).c1, (B61.out.go hby3).c2, cell_to sx11 hby3, cell_to sx20 hby3, cell_to sx21 hby3, cell_to sx30 hby3⟩) ?rm193
  case ry193 => first | exact Or.inl ⟨by rfl, by intro w'; go_simp; first | done | rfl⟩
  case rm193 =>
  simp only [Act.put, List.setIfInBounds_toArray, List.set_cons_zero, List.set_cons_succ]
  refine anyC_put 20 63 ?rv194 #[true, true, true, true, true, true, true, true, true, true, true, true, true, true, true, true, true, true, true, true, true, false, false, false, false, false, false, false, false, false, false, false, false, false, false, false, false, false, false, false, false] rfl rfl rfl (by kernel_rfl) (by kernel_rfl) (by kernel_rfl) (fun _ _ _ h => h) ?ry194 (⟨(B59.out.go hby3).c0, (B59.out.go hby3).c1, (B59.out.go hby3).c2, (B60.out.go hby3).c0, (B60.out.go hby3).c1, (B60.out.go hby3).c2, (B61.out.go hby3).c0, (B61.out.go hby3).c1, (B61.out.go hby3).c2, cell_to sx11 hby3, cell_to sx20 hby3, cell_to sx21 hby3, cell_to sx30 hby3⟩) ?rm194
  case ry194 => first | exact Or.inl ⟨by rfl, by intro w'; go_simp; first | done | rfl⟩ | exact Or.inr ⟨by rfl, rfl⟩ | exact Or.inr ⟨by rfl, by rfl⟩
  case rm194 =>
  simp only [Act.put, List.setIfInBounds_toArray, List.set_cons_zero, List.set_cons_succ]
  refine anyC_take 21 64 ?rv195 #[true, true, true, true, true, true, true, true, true, true, true, true, true, true, true, true, true, true, true, true, true, true, false, false, false, false, false, false, false, false, false, false, false, false, false, false, false, false, false, false, false] rfl rfl rfl (by kernel_rfl) (by kernel_rfl) (by kernel_rfl) (fun _ _ _ h => h) ?ry195 (⟨(B59.out.go hby3).c0, (B59.out.go hby3).c1, (B59.out.go hby3).c2, (B60.out.go hby3).c0, (B60.out.go hby3).c1, (B60.out.go hby3).c2, (B61.out.go hby3).c0, (B61.out.go hby3).c1, (B61.out.go hby3).c2, cell_to sx11 hby3, cell_to sx20 hby3, cell_to sx21 hby3, cell_to sx30 hby3⟩) ?rm195
  case ry195 => first | exact Or.inl ⟨by rfl, by intro w' hw'; (try dsimp only at hw'); go_simp; first | done | rfl⟩ | exact Or.inr ⟨by rfl, rfl⟩ | exact Or.inr ⟨by rfl, by rfl⟩
  case rm195 =>
  simp only [Act.put, List.setIfInBounds_toArray, List.set_cons_zero, List.set_cons_succ]
  refine anyC_put 22 65 ?rv196 #[true, true, true, true, true, true, true, true, true, true, true, true, true, true, true, true, true, true, true, true, true, true, true, false, false, false, false, false, false, false, false, false, false, false, false, false, false, false, false, false, false] rfl rfl rfl (by kernel_rfl) (by kernel_rfl) (by kernel_rfl) (fun _ _ _ h => h) ?ry196 (⟨(B59.out.go hby3).c0, (B59.out.go hby3).c1, (B59.out.go hby3).c2, (B60.out.go hby3).c0, (B60.out.go hby3).c1, (B60.out.go hby3).c2, (B61.out.go hby3).c0, (B61.out.go hby3).c1, (B61.out.go hby3).c2, cell_to sx11 hby3, cell_to sx20 hby3, cell_to sx21 hby3, cell_to sx30 hby3⟩) ?rm196
  case ry196 => first | exact Or.inl ⟨by rfl, by intro w'; go_simp; first | done | rfl⟩ | exact Or.inr ⟨by rfl, rfl⟩ | exact Or.inr ⟨by rfl, by rfl⟩
  case rm196 =>
  simp only [Act.put, List.setIfInBounds_toArray, List.set_cons_zero, List.set_cons_succ]
  refine anyC_take 23 66 ?rv197 #[true, true, true, true, true, true, true, true, true, true, true, true, true, true, true, true, true, true, true, true, true, true, true, true, false, false, false, false, false, false, false, false, false, false, false, false, false, false, false, false, false] rfl rfl rfl (by kernel_rfl) (by kernel_rfl) (by kernel_rfl) (fun _ _ _ h => h) ?ry197 (⟨(B59.out.go hby3).c0, (B59.out.go hby3).c1, (B59.out.go hby3).c2, (B60.out.go hby3).c0, (B60.out.go hby3).c1, (B60.out.go hby3).c2, (B61.out.go hby3).c0, (B61.out.go hby3).c1, (B61.out.go hby3).c2, cell_to sx11 hby3, cell_to sx20 hby3, cell_to sx21 hby3, cell_to sx30 hby3⟩) ?rm197
  case ry197 => first | exact Or.inl ⟨by rfl, by intro w' hw'; (try dsimp only at hw'); go_simp; first | done | rfl⟩ | exact Or.inr ⟨by rfl, rfl⟩ | exact Or.inr ⟨by rfl, by rfl⟩
  case rm197 =>
  simp only [Act.put, List.setIfInBounds_toArray, List.set_cons_zero, List.set_cons_succ]
  refine anyC_put 24 67 ?rv198 #[true, true, true, true, true, true, true, true, true, true, true, true, true, true, true, true, true, true, true, true, true, true, true, true, true, false, false, false, false, false, false, false, false, false, false, false, false, false, false, false, false] rfl rfl rfl (by kernel_rfl) (by kernel_rfl) (by kernel_rfl) (fun _ _ _ h => h) ?ry198 (⟨(B59.out.go hby3).c0, (B59.out.go hby3).c1, (B59.out.go hby3).c2, (B60.out.go hby3).c0, (B60.out.go hby3).c1, (B60.out.go hby3).c2, (B61.out.go hby3).c0, (B61.out.go hby3).c1, (B61.out.go hby3).c2, cell_to sx11 hby3, cell_to sx20 hby3, cell_to sx21 hby3, cell_to sx30 hby3⟩) ?rm198
  case ry198 => first | exact Or.inl ⟨by rfl, by intro w'; go_simp; first | done | rfl⟩ | exact Or.inr ⟨by rfl, rfl⟩ | exact Or.inr ⟨by rfl, by rfl⟩
  case rm198 =>
  simp only [Act.put, List.setIfInBounds_toArray, List.set_cons_zero, List.set_cons_succ]
  refine anyC_take 25 68 ?rv199 #[true, true, true, true, true, true, true, true, true, true, true, true, true, true, true, true, true, true, true, true, true, true, true, true, true, true, false, false, false, false, false, false, false, false, false, false, false, false, false, false, false] rfl rfl rfl (by kernel_rfl) (by kernel_rfl) (by kernel_rfl) (fun _ _ _ h => h) ?ry199 (⟨(B59.out.go hby3).c0, (B59.out.go hby3).c1, (B59.out.go hby3).c2, (B60.out.go hby3).c0, (B60.out.go hby3).c1, (B60.out.go hby3).c2, (B61.out.go hby3).c0, (B61.out.go hby3).c1, (B61.out.go hby3).c2, cell_to sx11 hby3, cell_to sx20 hby3, cell_to sx21 hby3, cell_to sx30 hby3⟩) ?rm199
  case ry199 => first | exact Or.inl ⟨by rfl, by intro w' hw'; (try dsimp only at hw'); go_simp; first | done | rfl⟩ | exact Or.inr ⟨by rfl, rfl⟩ | exact Or.inr ⟨by rfl, by rfl⟩
  case rm199 =>
  simp only [Act.put, List.setIfInBounds_toArray, List.set_cons_zero, List.set_cons_succ]
  refine anyC_put 26 69 ?rv200 #[true, true, true, true, true, true, true, true, true, true, true, true, true, true, true, true, true, true, true, true, true, true, true, true, true, true, true, false, false, false, false, false, false, false, false, false, false, false, false, false, false] rfl rfl rfl (by kernel_rfl) (by kernel_rfl) (by kernel_rfl) (fun _ _ _ h => h) ?ry200 (⟨(B59.out.go hby3).c0, (B59.out.go hby3).c1, (B59.out.go hby3).c2, (B60.out.go hby3).c0, (B60.out.go hby3).c1, (B60.out.go hby3).c2, (B61.out.go hby3).c0, (B61.out.go hby3).c1, (B61.out.go hby3).c2, cell_to sx11 hby3, cell_to sx20 hby3, cell_to sx21 hby3, cell_to sx30 hby3⟩) ?rm200
  case ry200 => first | exact Or.inl ⟨by rfl, by intro w'; go_simp; first | done | rfl⟩ | exact Or.inr ⟨by rfl, rfl⟩ | exact Or.inr ⟨by rfl, by rfl⟩
  case rm200 =>
  simp only [Act.put, List.setIfInBounds_toArray, List.set_cons_zero, List.set_cons_succ]
  refine anyC_take 27 70 ?rv201 #[true, true, true, true, true, true, true, true, true, true, true, true, true, true, true, true, true, true, true, true, true, true, true, true, true, true, true, true, false, false, false, false, false, false, false, false, false, false, false, false, false] rfl rfl rfl (by kernel_rfl) (by kernel_rfl) (by kernel_rfl) (fun _ _ _ h => h) ?ry201 (⟨(B59.out.go hby3).c0, (B59.out.go hby3).c1, (B59.out.go hby3).c2, (B60.out.go hby3).c0, (B60.out.go hby3).c1, (B60.out.go hby3).c2, (B61.out.go hby3).c0, (B61.out.go hby3).c1, (B61.out.go hby3).c2, cell_to sx11 hby3, cell_to sx20 hby3, cell_to sx21 hby3, cell_to sx30 hby3⟩) ?rm201
  case ry201 => first | exact Or.inl ⟨by rfl, by intro w' hw'; (try dsimp only at hw'); go_simp; first | done | rfl⟩ | exact Or.inr ⟨by rfl, rfl⟩ | exact Or.inr ⟨by rfl, by rfl⟩
  case rm201 =>
  simp only [Act.put, List.setIfInBounds_toArray, List.set_cons_zero, List.set_cons_succ]
  refine anyC_put 28 71 ?rv202 #[true, true, true, true, true, true, true, true, true, true, true, true, true, true, true, true, true, true, true, true, true, true, true, true, true, true, true, true, true, false, false, false, false, false, false, false, false, false, false, false, false] rfl rfl rfl (by kernel_rfl) (by kernel_rfl) (by kernel_rfl) (fun _ _ _ h => h) ?ry202 (⟨(B59.out.go hby3).c0, (B59.out.go hby3).c1, (B59.out.go hby3).c2, (B60.out.go hby3).c0, (B60.out.go hby3).c1, (B60.out.go hby3).c2, (B61.out.go hby3).c0, (B61.out.go hby3).c1, (B61.out.go hby3).c2, cell_to sx11 hby3, cell_to sx20 hby3, cell_to sx21 hby3, cell_to sx30 hby3⟩) ?rm202
  case ry202 => first | exact Or.inl ⟨by rfl, by intro w'; go_simp; first | done | rfl⟩ | exact Or.inr ⟨by rfl, rfl⟩ | exact Or.inr ⟨by rfl, by rfl⟩
  case rm202 =>
  simp only [Act.put, List.setIfInBounds_toArray, List.set_cons_zero, List.set_cons_succ]
  refine anyC_put 29 72 ?rv203 #[true, true, true, true, true, true, true, true, true, true, true, true, true, true, true, true, true, true, true, true, true, true, true, true, true, true, true, true, true, true, false, false, false, false, false, false, false, false, false, false, false] rfl rfl rfl (by kernel_rfl) (by kernel_rfl) (by kernel_rfl) (fun _ _ _ h => h) ?ry203 (⟨(B59.out.go hby3).c0, (B59.out.go hby3).c1, (B59.out.go hby3).c2, (B60.out.go hby3).c0, (B60.out.go hby3).c1, (B60.out.go hby3).c2, (B61.out.go hby3).c0, (B61.out.go hby3).c1, (B61.out.go hby3).c2, cell_to sx11 hby3, cell_to sx20 hby3, cell_to sx21 hby3, cell_to sx30 hby3⟩) ?rm203
  case ry203 => first | exact Or.inl ⟨by rfl, by intro w'; go_simp; first | done | rfl⟩
  case rm203 =>
  simp only [Act.put, List.setIfInBounds_toArray, List.set_cons_zero, List.set_cons_succ]
  refine anyC_put 30 73 ?rv204 #[true, true, true, true, true, true, true, true, true, true, true, true, true, true, true, true, true, true, true, true, true, true, true, true, true, true, true, true, true, true, true, false, false, false, false, false, false, false, false, false, false] rfl rfl rfl (by kernel_rfl) (by kernel_rfl) (by kernel_rfl) (fun _ _ _ h => h) ?ry204 (⟨(B59.out.go hby3).c0, (B59.out.go hby3).c1, (B59.out.go hby3).c2, (B60.out.go hby3).c0, (B60.out.go hby3).c1, (B60.out.go hby3).c2, (B61.out.go hby3).c0, (B61.out.go hby3).c1, (B61.out.go hby3).c2, cell_to sx11 hby3, cell_to sx20 hby3, cell_to sx21 hby3, cell_to sx30 hby3⟩) ?rm204
  case ry204 => first | exact Or.inl ⟨by rfl, by intro w'; go_simp; first | done | rfl⟩
  case rm204 =>
  simp only [Act.put, List.setIfInBounds_toArray, List.set_cons_zero, List.set_cons_succ]
  refine anyC_put 31 74 ?rv205 #[true, true, true, true, true, true, true, true, true, true, true, true, true, true, true, true, true, true, true, true, true, true, true, true, true, true, true, true, true, true, true, true, false, false, false, false, false, false, false, false, false] rfl rfl rfl (by kernel_rfl) (by kernel_rfl) (by kernel_rfl) (fun _ _ _ h => h) ?ry205 (⟨(B59.out.go hby3).c0, (B59.out.go hby3).c1, (B59.out.go hby3).c2, (B60.out.go hby3).c0, (B60.out.go hby3).c1, (B60.out.go hby3).c2, (B61.out.go hby3).c0, (B61.out.go hby3).c1, (B61.out.go hby3).c2, cell_to sx11 hby3, cell_to sx20 hby3, cell_to sx21 hby3, cell_to sx30 hby3⟩) ?rm205
  case ry205 => first | exact Or.inl ⟨by rfl, by intro w'; go_simp; first | done | rfl⟩ | exact Or.inr ⟨by rfl, rfl⟩ | exact Or.inr ⟨by rfl, by rfl⟩
  case rm205 =>
  simp only [Act.put, List.setIfInBounds_toArray, List.set_cons_zero, List.set_cons_succ]
  refine anyC_take 32 75 ?rv206 #[true, true, true, true, true, true, true, true, true, true, true, true, true, true, true, true, true, true, true, true, true, true, true, true, true, true, true, true, true, true, true, true, true, false, false, false, false, false, false, false, false] rfl rfl rfl (by kernel_rfl) (by kernel_rfl) (by kernel_rfl) (fun _ _ _ h => h) ?ry206 (⟨(B59.out.go hby3).c0, (B59.out.go hby3).c1, (B59.out.go hby3).c2, (B60.out.go hby3).c0, (B60.out.go hby3).c1, (B60.out.go hby3).c2, (B61.out.go hby3).c0, (B61.out.go hby3).c1, (B61.out.go hby3).c2, cell_to sx11 hby3, cell_to sx20 hby3, cell_to sx21 hby3, cell_to sx30 hby3⟩) ?rm206
  case ry206 => first | exact Or.inl ⟨by rfl, by intro w' hw'; (try dsimp only at hw'); go_simp; first | done | rfl⟩ | exact Or.inr ⟨by rfl, rfl⟩ | exact Or.inr ⟨by rfl, by rfl⟩
  case rm206 =>
  simp only [Act.put, List.setIfInBounds_toArray, List.set_cons_zero, List.set_cons_succ]
  refine anyC_put 33 76 ?rv207 #[true, true, true, true, true, true, true, true, true, true, true, true, true, true, true, true, true, true, true, true, true, true, true, true, true, true, true, true, true, true, true, true, true, true, false, false, false, false, false, false, false] rfl rfl rfl (by kernel_rfl) (by kernel_rfl) (by kernel_rfl) (fun _ _ _ h => h) ?ry207 (⟨(B59.out.go hby3).c0, (B59.out.go hby3).c1, (B59.out.go hby3).c2, (B60.out.go hby3).c0, (B60.out.go hby3).c1, (B60.out.go hby3).c2, (B61.out.go hby3).c0, (B61.out.go hby3).c1, (B61.out.go hby3).c2, cell_to sx11 hby3, cell_to sx20 hby3, cell_to sx21 hby3, cell_to sx30 hby3⟩) ?rm207
  case ry207 => first | exact Or.inl ⟨by rfl, by intro w'; go_simp; first | done | rfl⟩ | exact Or.inr ⟨by rfl, rfl⟩ | exact Or.inr ⟨by rfl, by rfl⟩
  case rm207 =>
  simp only [Act.put, List.setIfInBounds_toArray, List.set_cons_zero, List.set_cons_succ]
  refine anyC_take 34 77 ?rv208 #[true, true, true, true, true, true, true, true, true, true, true, true, true, true, true, true, true, true, true, true, true, true, true, true, true, true, true, true, true, true, true, true, true, true, true, false, false, false, false, false, false] rfl rfl rfl (by kernel_rfl) (by kernel_rfl) (by kernel_rfl) (fun _ _ _ h => h) ?ry208 (⟨(B59.out.go hby3).c0, (B59.out.go hby3).c1, (B59.out.go hby3).c2, (B60.out.go hby3).c0, (B60.out.go hby3).c1, (B60.out.go hby3).c2, (B61.out.go hby3).c0, (B61.out.go hby3).c1, (B61.out.go hby3).c2, cell_to sx11 hby3, cell_to sx20 hby3, cell_to sx21 hby3, cell_to sx30 hby3⟩) ?rm208
  case ry208 => first | exact Or.inl ⟨by rfl, by intro w' hw'; (try dsimp only at hw'); go_simp; first | done | rfl⟩ | exact Or.inr ⟨by rfl, rfl⟩ | exact Or.inr ⟨by rfl, by rfl⟩
  case rm208 =>
  simp only [Act.put, List.setIfInBounds_toArray, List.set_cons_zero, List.set_cons_succ]
  refine anyC_put 35 78 ?rv209 #[true, true, true, true, true, true, true, true, true, true, true, true, true, true, true, true, true, true, true, true, true, true, true, true, true, true, true, true, true, true, true, true, true, true, true, true, false, false, false, false, false] rfl rfl rfl (by kernel_rfl) (by kernel_rfl) (by kernel_rfl) (fun _ _ _ h => h) ?ry209 (⟨(B59.out.go hby3).c0, (B59.out.go hby3).c1, (B59.out.go hby3).c2, (B60.out.go hby3).c0, (B60.out.go hby3).c1, (B60.out.go hby3).c2, (B61.out.go hby3).c0, (B61.out.go hby3).c1, (B61.out.go hby3).c2, cell_to sx11 hby3, cell_to sx20 hby3, cell_to sx21 hby3, cell_to sx30 hby3⟩) ?rm209
  case ry209 => first | exact Or.inl ⟨by rfl, by intro w'; go_simp; first | done | rfl⟩ | exact Or.inr ⟨by rfl, rfl⟩ | exact Or.inr ⟨by rfl, by rfl⟩
  case rm209 =>
  simp only [Act.put, List.setIfInBounds_toArray, List.set_cons_zero, List.set_cons_succ]
  refine anyC_take 36 79 ?rv210 #[true, true, true, true, true, true, true, true, true, true, true, true, true, true, true, true, true, true, true, true, true, true, true, true, true, true, true, true, true, true, true, true, true, true, true, true, true, false, false, false, false] rfl rfl rfl (by kernel_rfl) (by kernel_rfl) (by kernel_rfl) (fun _ _ _ h => h) ?ry210 (⟨(B59.out.go hby3).c0, (B59.out.go hby3).c1, (B59.out.go hby3).c2, (B60.out.go hby3).c0, (B60.out.go hby3).c1, (B60.out.go hby3).c2, (B61.out.go hby3).c0, (B61.out.go hby3).c1, (B61.out.go hby3).c2, cell_to sx11 hby3, cell_to sx20 hby3, cell_to sx21 hby3, cell_to sx30 hby3⟩) ?rm210
  case ry210 => first | exact Or.inl ⟨by rfl, by intro w' hw'; (try dsimp only at hw'); go_simp; first | done | rfl⟩ | exact Or.inr ⟨by rfl, rfl⟩ | exact Or.inr ⟨by rfl, by rfl⟩
  case rm210 =>
  simp only [Act.put, List.setIfInBounds_toArray, List.set_cons_zero, List.set_cons_succ]
  refine anyC_put 37 80 ?rv211 #[true, true, true, true, true, true, true, true, true, true, true, true, true, true, true, true, true, true, true, true, true, true, true, true, true, true, true, true, true, true, true, true, true, true, true, true, true, true, false, false, false] rfl rfl rfl (by kernel_rfl) (by kernel_rfl) (by kernel_rfl) (fun _ _ _ h => h) ?ry211 (⟨(B59.out.go hby3).c0, (B59.out.go hby3).c1, (B59.out.go hby3).c2, (B60.out.go hby3).c0, (B60.out.go hby3).c1, (B60.out.go hby3).c2, (B61.out.go hby3).c0, (B61.out.go hby3).c1, (B61.out.go hby3).c2, cell_to sx11 hby3, cell_to sx20 hby3, cell_to sx21 hby3, cell_to sx30 hby3⟩) ?rm211
  case ry211 => first | exact Or.inl ⟨by rfl, by intro w'; go_simp; first | done | rfl⟩ | exact Or.inr ⟨by rfl, rfl⟩ | exact Or.inr ⟨by rfl, by rfl⟩
  case rm211 =>
  simp only [Act.put, List.setIfInBounds_toArray, List.set_cons_zero, List.set_cons_succ]
  refine anyC_take 38 81 ?rv212 #[true, true, true, true, true, true, true, true, true, true, true, true, true, true, true, true, true, true, true, true, true, true, true, true, true, true, true, true, true, true, true, true, true, true, true, true, true, true, true, false, false] rfl rfl rfl (by kernel_rfl) (by kernel_rfl) (by kernel_rfl) (fun _ _ _ h => h) ?ry212 (⟨(B59.out.go hby3).c0, (B59.out.go hby3).c1, (B59.out.go hby3).c2, (B60.out.go hby3).c0, (B60.out.go hby3).c1, (B60.out.go hby3).c2, (B61.out.go hby3).c0, (B61.out.go hby3).c1, (B61.out.go hby3).c2, cell_to sx11 hby3, cell_to sx20 hby3, cell_to sx21 hby3, cell_to sx30 hby3⟩) ?rm212
  case ry212 => first | exact Or.inl ⟨by rfl, by intro w' hw'; (try dsimp only at hw'); go_simp; first | done | rfl⟩ | exact Or.inr ⟨by rfl, rfl⟩ | exact Or.inr ⟨by rfl, by rfl⟩
  case rm212 =>
  simp only [Act.put, List.setIfInBounds_toArray, List.set_cons_zero, List.set_cons_succ]
  refine anyC_put 39 82 ?rv213 #[true, true, true, true, true, true, true, true, true, true, true, true, true, true, true, true, true, true, true, true, true, true, true, true, true, true, true, true, true, true, true, true, true, true, true, true, true, true, true, true, false] rfl rfl rfl (by kernel_rfl) (by kernel_rfl) (by kernel_rfl) (fun _ _ _ h => h) ?ry213 (⟨(B59.out.go hby3).c0, (B59.out.go hby3).c1, (B59.out.go hby3).c2, (B60.out.go hby3).c0, (B60.out.go hby3).c1, (B60.out.go hby3).c2, (B61.out.go hby3).c0, (B61.out.go hby3).c1, (B61.out.go hby3).c2, cell_to sx11 hby3, cell_to sx20 hby3, cell_to sx21 hby3, cell_to sx30 hby3⟩) ?rm213
  case ry213 => first | exact Or.inl ⟨by rfl, by intro w'; go_simp; first | done | rfl⟩ | exact Or.inr ⟨by rfl, rfl⟩ | exact Or.inr ⟨by rfl, by rfl⟩
  case rm213 =>
  simp only [Act.put, List.setIfInBounds_toArray, List.set_cons_zero, List.set_cons_succ]
  refine anyC_put 40 83 ?rv214 #[true, true, true, true, true, true, true, true, true, true, true, true, true, true, true, true, true, true, true, true, true, true, true, true, true, true, true, true, true, true, true, true, true, true, true, true, true, true, true, true, true] rfl rfl rfl (by kernel_rfl) (by kernel_rfl) (by kernel_rfl) (fun _ _ _ h => h) ?ry214 (⟨(B59.out.go hby3).c0, (B59.out.go hby3).c1, (B59.out.go hby3).c2, (B60.out.go hby3).c0, (B60.out.go hby3).c1, (B60.out.go hby3).c2, (B61.out.go hby3).c0, (B61.out.go hby3).c1, (B61.out.go hby3).c2, cell_to sx11 hby3, cell_to sx20 hby3, cell_to sx21 hby3, cell_to sx30 hby3⟩) ?rm214
  case ry214 => first | exact Or.inl ⟨by rfl, by intro w'; go_simp; first | done | rfl⟩
  case rm214 =>
  simp only [Act.put, List.setIfInBounds_toArray, List.set_cons_zero, List.set_cons_succ]
  refine anyC_done (by kernel_rfl) ?_
  have hB := hby3
  have z66 : wo57.heap.size ≤ y3.heap.size := hB.size
  have B67 : Hid (Abx y3 (w.heap.size) (.bool false) (.slice (some ⟨b1, o1, none⟩) sz1.length sc1) (.slice da1 dz1.length dc1)) := B59.out.go hB
  have B68 : Hid (Abx y3 (w.heap.size + 1) (.bool false) (.slice (some ⟨b2, o2, none⟩) sz2.length sc2) (.slice da2 dz2.length dc2)) := B60.out.go hB
  have B69 : Hid (Abx y3 (w.heap.size + 1 + 1) (.bool false) (.slice (some ⟨b3, o3, none⟩) sz3.length sc3) (.slice da3 dz3.length dc3)) := B61.out.go hB
  have hb70 : Hid (Below w.heap.size w y3) := hb65.out.trans (hB.mono hb65.out.size)
  clear hB hb65 B59 B60 B61
  go_wp2_with fail
  go_ret
  exact ⟨rfl, hb70.out⟩
set_option maxRecDepth 100000 in
set_option maxHeartbeats 4000000 in
theorem chain_bc (HNi : CNi) (f g : Int) (hf : In64 f) (hg : In64 g) (c1 : Bool) (sa1 : Option Addr) (sc1 : Nat) (sz1 : List Int) (da1 : Option Addr) (dc1 : Nat) (dz1 : List Int) (c2 : Bool) (sa2 : Option Addr) (sc2 : Nat) (sz2 : List Int) (da2 : Option Addr) (dc2 : Nat) (dz2 : List Int) (c3 : Bool) (sa3 : Option Addr) (sc3 : Nat) (sz3 : List Int) (da3 : Option Addr) (dc3 : Nat) (dz3 : List Int) (w : World) (w8 : IsArrD w sa1 sz1 sc1 da1 dz1 dc1) (w9 : IsArrD w sa2 sz2 sc2 da2 dz2 dc2) (w10 : IsArrD w sa3 sz3 sc3 da3 dz3 dc3) (GS : Hid (Srg f g)) (G1 : Hid (GrdP 16 c1 sz1 dz1)) (G2 : Hid (GrdP 16 c2 sz2 dz2)) (G3 : Hid (GrdP 16 c3 sz3 dz3)) (E1 : Hid (nth sz1 1 = nth sz2 0)) (E2 : Hid (¬ nth sz2 1 = nth sz3 0)) :
    Calls Try.prog 3 #[.int .i64 f, .int .i64 g, .agg #[.bool c1, .slice sa1 sz1.length sc1, .slice da1 dz1.length dc1], .agg #[.bool c2, .slice sa2 sz2.length sc2, .slice da2 dz2.length dc2], .agg #[.bool c3, .slice sa3 sz3.length sc3, .slice da3 dz3.length dc3]] w fun e w' => e = .returned (.bool true) ∧ Below w.heap.size w w' := by
  obtain ⟨b1, o1, rfl, hq1, hc1⟩ := w8.2.2.1.1.at (q := 0) (by rw [G1.out.2.1]; decide)
  have hcf1 := G1.out.1
  subst hcf1
  obtain ⟨m1, hm1⟩ : ∃ m, m = nth sz1 0 := ⟨_, rfl⟩
  obtain ⟨n1, hn1⟩ : ∃ n, n = nth sz1 1 := ⟨_, rfl⟩
  have HC1 : Hid (b1 < w.heap.size ∧ w.cell? ⟨b1, o1, none⟩ = some (.int .i64 m1) ∧ w.cell? ⟨b1, o1 + 1, none⟩ = some (.int .i64 n1)) := ⟨hq1, by have := hc1 0 (by rw [G1.out.2.1]; decide); rw [Nat.add_zero, ← hm1] at this; exact this, by rw [hn1]; exact hc1 1 (by rw [G1.out.2.1]; decide)⟩
  have HM1 : Hid (m1 = nth sz1 0 ∧ n1 = nth sz1 1) := ⟨hm1, hn1⟩
  have hz1 : sz1.length = 2 := G1.out.2.1
  have HZ1 : Hid (sz1.length = 2) := hz1
  have lz1 : 1 < sz1.length := by omega
  have ly1 : 0 < sz1.length := by omega
  have lw1 : (1 : Int) < (sz1.length : Int) := by omega
  have lv1 : (0 : Int) < (sz1.length : Int) := by omega
  clear hq1 hc1 hm1 hn1 hz1
  obtain ⟨b2, o2, rfl, hq2, hc2⟩ := w9.2.2.1.1.at (q := 0) (by rw [G2.out.2.1]; decide)
  have hcf2 := G2.out.1
  subst hcf2
  obtain ⟨m2, hm2⟩ : ∃ m, m = nth sz2 0 := ⟨_, rfl⟩
  obtain ⟨n2, hn2⟩ : ∃ n, n = nth sz2 1 := ⟨_, rfl⟩
  have HC2 : Hid (b2 < w.heap.size ∧ w.cell? ⟨b2, o2, none⟩ = some (.int .i64 m2) ∧ w.cell? ⟨b2, o2 + 1, none⟩ = some (.int .i64 n2)) := ⟨hq2, by have := hc2 0 (by rw [G2.out.2.1]; decide); rw [Nat.add_zero, ← hm2] at this; exact this, by rw [hn2]; exact hc2 1 (by rw [G2.out.2.1]; decide)⟩
  have HM2 : Hid (m2 = nth sz2 0 ∧ n2 = nth sz2 1) := ⟨hm2, hn2⟩
  have hz2 : sz2.length = 2 := G2.out.2.1
  have HZ2 : Hid (sz2.length = 2) := hz2
  have lz2 : 1 < sz2.length := by omega
  have ly2 : 0 < sz2.length := by omega
  have lw2 : (1 : Int) < (sz2.length : Int) := by omega
  have lv2 : (0 : Int) < (sz2.length : Int) := by omega
  clear hq2 hc2 hm2 hn2 hz2
  obtain ⟨b3, o3, rfl, hq3, hc3⟩ := w10.2.2.1.1.at (q := 0) (by rw [G3.out.2.1]; decide)
  have hcf3 := G3.out.1
  subst hcf3
  obtain ⟨m3, hm3⟩ : ∃ m, m = nth sz3 0 := ⟨_, rfl⟩
  obtain ⟨n3, hn3⟩ : ∃ n, n = nth sz3 1 := ⟨_, rfl⟩
  have HC3 : Hid (b3 < w.heap.size ∧ w.cell? ⟨b3, o3, none⟩ = some (.int .i64 m3) ∧ w.cell? ⟨b3, o3 + 1, none⟩ = some (.int .i64 n3)) := ⟨hq3, by have := hc3 0 (by rw [G3.out.2.1]; decide); rw [Nat.add_zero, ← hm3] at this; exact this, by rw [hn3]; exact hc3 1 (by rw [G3.out.2.1]; decide)⟩
  have HM3 : Hid (m3 = nth sz3 0 ∧ n3 = nth sz3 1) := ⟨hm3, hn3⟩
  have hz3 : sz3.length = 2 := G3.out.2.1
  have HZ3 : Hid (sz3.length = 2) := hz3
  have lz3 : 1 < sz3.length := by omega
  have ly3 : 0 < sz3.length := by omega
  have lw3 : (1 : Int) < (sz3.length : Int) := by omega
  have lv3 : (0 : Int) < (sz3.length : Int) := by omega
  clear hq3 hc3 hm3 hn3 hz3
  have t1 : (n1 != m2) = false := by rw [HM1.out.2, HM2.out.1, E1.out]; simp
  have t2 : (n2 != m3) = true := by rw [HM2.out.2, HM3.out.1]; simpa using E2.out
  obtain ⟨x11, x12, x3, x4, s64, T⟩ := w8
  have HI1 : Hid (IsC w.heap.size w (some ⟨b1, o1, none⟩) sz1 sc1 ∧ IsC w.heap.size w da1 dz1 dc1 ∧ (∀ j, In64 (nth sz1 j)) ∧ ∀ j, In64 (nth dz1 j)) := ⟨x3, x4, s64, T⟩
  clear x3 x4 T s64
  obtain ⟨x21, x22, x3, x4, s64, T⟩ := w9
  have HI2 : Hid (IsC w.heap.size w (some ⟨b2, o2, none⟩) sz2 sc2 ∧ IsC w.heap.size w da2 dz2 dc2 ∧ (∀ j, In64 (nth sz2 j)) ∧ ∀ j, In64 (nth dz2 j)) := ⟨x3, x4, s64, T⟩
  clear x3 x4 T s64
  obtain ⟨x31, x32, x3, x4, s64, T⟩ := w10
  have HI3 : Hid (IsC w.heap.size w (some ⟨b3, o3, none⟩) sz3 sc3 ∧ IsC w.heap.size w da3 dz3 dc3 ∧ (∀ j, In64 (nth sz3 j)) ∧ ∀ j, In64 (nth dz3 j)) := ⟨x3, x4, s64, T⟩
  clear x3 x4 T s64
  have n1 := Abx.new w (.bool false) (.slice (some ⟨b1, o1, none⟩) sz1.length sc1) (.slice da1 dz1.length dc1)
  have n2 := Abx.new (w.alloc (.cells #[.bool false, .slice (some ⟨b1, o1, none⟩) sz1.length sc1, .slice da1 dz1.length dc1] 25)) (.bool false) (.slice (some ⟨b2, o2, none⟩) sz2.length sc2) (.slice da2 dz2.length dc2)
  simp only [World.size_alloc] at n2
  have n3 := Abx.new ((w.alloc (.cells #[.bool false, .slice (some ⟨b1, o1, none⟩) sz1.length sc1, .slice da1 dz1.length dc1] 25)).alloc (.cells #[.bool false, .slice (some ⟨b2, o2, none⟩) sz2.length sc2, .slice da2 dz2.length dc2] 25)) (.bool false) (.slice (some ⟨b3, o3, none⟩) sz3.length sc3) (.slice da3 dz3.length dc3)
  simp only [World.size_alloc] at n3
  have n4 := lit_mid (((w.alloc (.cells #[.bool false, .slice (some ⟨b1, o1, none⟩) sz1.length sc1, .slice da1 dz1.length dc1] 25)).alloc (.cells #[.bool false, .slice (some ⟨b2, o2, none⟩) sz2.length sc2, .slice da2 dz2.length dc2] 25)).alloc (.cells #[.bool false, .slice (some ⟨b3, o3, none⟩) sz3.length sc3, .slice da3 dz3.length dc3] 25)) 3 [1, 2, 3] 3 rfl
  simp only [World.size_alloc, List.map_cons, List.map_nil] at n4
  go_enter Try.func3, Try.ntmps3
  go_wp2_with fail
  obtain ⟨wo5, hwo5⟩ : ∃ wo5, wo5 = ((((w.alloc (.cells #[.bool false, .slice (some ⟨b1, o1, none⟩) sz1.length sc1, .slice da1 dz1.length dc1] 25)).alloc (.cells #[.bool false, .slice (some ⟨b2, o2, none⟩) sz2.length sc2, .slice da2 dz2.length dc2] 25)).alloc (.cells #[.bool false, .slice (some ⟨b3, o3, none⟩) sz3.length sc3, .slice da3 dz3.length dc3] 25)).alloc (.cells #[.int .i64 1, .int .i64 2, .int .i64 3] 3)) := ⟨_, rfl⟩
  rw [← hwo5]
  have z6 : w.heap.size + 1 + 1 + 1 + 1 ≤ wo5.heap.size := by rw [hwo5]; simp only [World.size_alloc]; omega
  have B7 : Hid (Abx wo5 (w.heap.size) (.bool false) (.slice (some ⟨b1, o1, none⟩) sz1.length sc1) (.slice da1 dz1.length dc1)) := by rw [hwo5]; exact (((n1.al (.cells #[.bool false, .slice (some ⟨b2, o2, none⟩) sz2.length sc2, .slice da2 dz2.length dc2] 25)).al (.cells #[.bool false, .slice (some ⟨b3, o3, none⟩) sz3.length sc3, .slice da3 dz3.length dc3] 25)).al (.cells #[.int .i64 1, .int .i64 2, .int .i64 3] 3))
  have B8 : Hid (Abx wo5 (w.heap.size + 1) (.bool false) (.slice (some ⟨b2, o2, none⟩) sz2.length sc2) (.slice da2 dz2.length dc2)) := by rw [hwo5]; exact ((n2.al (.cells #[.bool false, .slice (some ⟨b3, o3, none⟩) sz3.length sc3, .slice da3 dz3.length dc3] 25)).al (.cells #[.int .i64 1, .int .i64 2, .int .i64 3] 3))
  have B9 : Hid (Abx wo5 (w.heap.size + 1 + 1) (.bool false) (.slice (some ⟨b3, o3, none⟩) sz3.length sc3) (.slice da3 dz3.length dc3)) := by rw [hwo5]; exact (n3.al (.cells #[.int .i64 1, .int .i64 2, .int .i64 3] 3))
  have L10 : Hid (MidC (w.heap.size + 1 + 1 + 1) (w.heap.size + 1 + 1 + 1 + 1) wo5 (some ⟨w.heap.size + 1 + 1 + 1, 0, none⟩) ([1, 2, 3]) (3)) := by rw [hwo5]; exact n4
  have hb11 : Hid (Below w.heap.size w wo5) := by rw [hwo5]; exact (((((Below.refl w.heap.size w).alloc (by omega) (.cells #[.bool false, .slice (some ⟨b1, o1, none⟩) sz1.length sc1, .slice da1 dz1.length dc1] 25)).alloc (by simp only [World.size_alloc]; omega) (.cells #[.bool false, .slice (some ⟨b2, o2, none⟩) sz2.length sc2, .slice da2 dz2.length dc2] 25)).alloc (by simp only [World.size_alloc]; omega) (.cells #[.bool false, .slice (some ⟨b3, o3, none⟩) sz3.length sc3, .slice da3 dz3.length dc3] 25)).alloc (by simp only [World.size_alloc]; omega) (.cells #[.int .i64 1, .int .i64 2, .int .i64 3] 3))
  have zwo5 : w.heap.size ≤ wo5.heap.size := hb11.out.size
  clear hwo5 n1 n2 n3 n4
  refine (vec_c (some ⟨w.heap.size + 1 + 1 + 1, 0, none⟩) 3 [1, 2, 3] (by simp) _ (L10.out.is (by omega)).1).mono ?_
  rintro e v1 ⟨vap, vcp, gap, gcp, rfl, hVp, hGp, hB⟩
  have z12 : wo5.heap.size ≤ v1.heap.size := hB.size
  have B13 : Hid (Abx v1 (w.heap.size) (.bool false) (.slice (some ⟨b1, o1, none⟩) sz1.length sc1) (.slice da1 dz1.length dc1)) := B7.out.go hB
  have B14 : Hid (Abx v1 (w.heap.size + 1) (.bool false) (.slice (some ⟨b2, o2, none⟩) sz2.length sc2) (.slice da2 dz2.length dc2)) := B8.out.go hB
  have B15 : Hid (Abx v1 (w.heap.size + 1 + 1) (.bool false) (.slice (some ⟨b3, o3, none⟩) sz3.length sc3) (.slice da3 dz3.length dc3)) := B9.out.go hB
  have L16 : Hid (MidC (w.heap.size + 1 + 1 + 1) (w.heap.size + 1 + 1 + 1 + 1) v1 (some ⟨w.heap.size + 1 + 1 + 1, 0, none⟩) ([1, 2, 3]) (3)) := L10.out.go (by omega) hB
  have hb17 : Hid (Below w.heap.size w v1) := hb11.out.trans (hB.mono hb11.out.size)
  have L18 : Hid (MidC (wo5.heap.size) (v1.heap.size) v1 (vap) ([(3 : Int)]) (vcp)) := hVp.midc
  have L19 : Hid (MidC (wo5.heap.size) (v1.heap.size) v1 (gap) ([1, 2, 3]) (gcp)) := hGp.midc
  clear hB hb11 B7 B8 B9 L10 hVp hGp
  clear L16
  have n20 := lit_mid v1 3 [4, 5, 6] 3 rfl
  simp only [List.map_cons, List.map_nil] at n20
  go_wp2_with fail
  obtain ⟨wo21, hwo21⟩ : ∃ wo21, wo21 = (v1.alloc (.cells #[.int .i64 4, .int .i64 5, .int .i64 6] 3)) := ⟨_, rfl⟩
  rw [← hwo21]
  have z22 : v1.heap.size + 1 ≤ wo21.heap.size := by rw [hwo21]; simp only [World.size_alloc]; omega
  have B23 : Hid (Abx wo21 (w.heap.size) (.bool false) (.slice (some ⟨b1, o1, none⟩) sz1.length sc1) (.slice da1 dz1.length dc1)) := by rw [hwo21]; exact (B13.out.al (.cells #[.int .i64 4, .int .i64 5, .int .i64 6] 3))
  have B24 : Hid (Abx wo21 (w.heap.size + 1) (.bool false) (.slice (some ⟨b2, o2, none⟩) sz2.length sc2) (.slice da2 dz2.length dc2)) := by rw [hwo21]; exact (B14.out.al (.cells #[.int .i64 4, .int .i64 5, .int .i64 6] 3))
  have B25 : Hid (Abx wo21 (w.heap.size + 1 + 1) (.bool false) (.slice (some ⟨b3, o3, none⟩) sz3.length sc3) (.slice da3 dz3.length dc3)) := by rw [hwo21]; exact (B15.out.al (.cells #[.int .i64 4, .int .i64 5, .int .i64 6] 3))
  have L26 : Hid (MidC (wo5.heap.size) (v1.heap.size) wo21 (vap) ([(3 : Int)]) (vcp)) := by rw [hwo21]; exact (L18.out.al (by omega) (.cells #[.int .i64 4, .int .i64 5, .int .i64 6] 3))
  have L27 : Hid (MidC (wo5.heap.size) (v1.heap.size) wo21 (gap) ([1, 2, 3]) (gcp)) := by rw [hwo21]; exact (L19.out.al (by omega) (.cells #[.int .i64 4, .int .i64 5, .int .i64 6] 3))
  have L28 : Hid (MidC (v1.heap.size) (v1.heap.size + 1) wo21 (some ⟨v1.heap.size, 0, none⟩) ([4, 5, 6]) (3)) := by rw [hwo21]; exact n20
  have hb29 : Hid (Below w.heap.size w wo21) := by rw [hwo21]; exact (hb17.out.alloc (by omega) (.cells #[.int .i64 4, .int .i64 5, .int .i64 6] 3))
  have zwo21 : w.heap.size ≤ wo21.heap.size := hb29.out.size
  clear hwo21 n20 hb17 B13 B14 B15 L18 L19
  refine (vec_c (some ⟨v1.heap.size, 0, none⟩) 3 [4, 5, 6] (by simp) _ (L28.out.is (by omega)).1).mono ?_
  rintro e v2 ⟨vaq, vcq, gaq, gcq, rfl, hVq, hGq, hB⟩
  have z30 : wo21.heap.size ≤ v2.heap.size := hB.size
  have B31 : Hid (Abx v2 (w.heap.size) (.bool false) (.slice (some ⟨b1, o1, none⟩) sz1.length sc1) (.slice da1 dz1.length dc1)) := B23.out.go hB
  have B32 : Hid (Abx v2 (w.heap.size + 1) (.bool false) (.slice (some ⟨b2, o2, none⟩) sz2.length sc2) (.slice da2 dz2.length dc2)) := B24.out.go hB
  have B33 : Hid (Abx v2 (w.heap.size + 1 + 1) (.bool false) (.slice (some ⟨b3, o3, none⟩) sz3.length sc3) (.slice da3 dz3.length dc3)) := B25.out.go hB
  have L34 : Hid (MidC (wo5.heap.size) (v1.heap.size) v2 (vap) ([(3 : Int)]) (vcp)) := L26.out.go (by omega) hB
  have L35 : Hid (MidC (wo5.heap.size) (v1.heap.size) v2 (gap) ([1, 2, 3]) (gcp)) := L27.out.go (by omega) hB
  have L36 : Hid (MidC (v1.heap.size) (v1.heap.size + 1) v2 (some ⟨v1.heap.size, 0, none⟩) ([4, 5, 6]) (3)) := L28.out.go (by omega) hB
  have hb37 : Hid (Below w.heap.size w v2) := hb29.out.trans (hB.mono hb29.out.size)
  have L38 : Hid (MidC (wo21.heap.size) (v2.heap.size) v2 (vaq) ([(3 : Int)]) (vcq)) := hVq.midc
  have L39 : Hid (MidC (wo21.heap.size) (v2.heap.size) v2 (gaq) ([4, 5, 6]) (gcq)) := hGq.midc
  clear hB hb29 B23 B24 B25 L26 L27 L28 hVq hGq
  clear L36
  go_wp2_with fail
  refine (niw_ok 1 3 false vap vcp [(3 : Int)] 1 rfl gap gcp [1, 2, 3] 3 rfl false vaq vcq [(3 : Int)] 1 rfl gaq gcq [4, 5, 6] 3 rfl _ (by unfold In64; decide) (by unfold In64; decide) (by decide) (by decide) (L34.out.is (by omega)) (L35.out.is (by omega)).1 (lit12 (by decide)) (by decide) (by decide) (L38.out.is (by omega)) (L39.out.is (by omega)).1 (lit12 (by decide)) [] [32] HNi (by show inE 1 3 false [(3 : Int)] [1, 2, 3] false [(3 : Int)] [4, 5, 6] = 0 ∧ inS [(3 : Int)] [(3 : Int)] = [] ∧ inD 1 3 false [(3 : Int)] [1, 2, 3] false [(3 : Int)] [4, 5, 6] = [32]; decide +kernel)).mono ?_
  rintro e v3 ⟨f1, g1, f2, g2, rfl, hX0, hY0, hB⟩
  have z40 : v2.heap.size ≤ v3.heap.size := hB.size
  have B41 : Hid (Abx v3 (w.heap.size) (.bool false) (.slice (some ⟨b1, o1, none⟩) sz1.length sc1) (.slice da1 dz1.length dc1)) := B31.out.go hB
  have B42 : Hid (Abx v3 (w.heap.size + 1) (.bool false) (.slice (some ⟨b2, o2, none⟩) sz2.length sc2) (.slice da2 dz2.length dc2)) := B32.out.go hB
  have B43 : Hid (Abx v3 (w.heap.size + 1 + 1) (.bool false) (.slice (some ⟨b3, o3, none⟩) sz3.length sc3) (.slice da3 dz3.length dc3)) := B33.out.go hB
  have L44 : Hid (MidC (wo5.heap.size) (v1.heap.size) v3 (vap) ([(3 : Int)]) (vcp)) := L34.out.go (by omega) hB
  have L45 : Hid (MidC (wo5.heap.size) (v1.heap.size) v3 (gap) ([1, 2, 3]) (gcp)) := L35.out.go (by omega) hB
  have L46 : Hid (MidC (wo21.heap.size) (v2.heap.size) v3 (vaq) ([(3 : Int)]) (vcq)) := L38.out.go (by omega) hB
  have L47 : Hid (MidC (wo21.heap.size) (v2.heap.size) v3 (gaq) ([4, 5, 6]) (gcq)) := L39.out.go (by omega) hB
  have hb48 : Hid (Below w.heap.size w v3) := hb37.out.trans (hB.mono hb37.out.size)
  have L49 : Hid (MidC (v2.heap.size) (v3.heap.size) v3 (f1) ([]) (g1)) := hX0.midc
  have L50 : Hid (MidC (v2.heap.size) (v3.heap.size) v3 (f2) ([32]) (g2)) := hY0.midc
  clear hB hb37 B31 B32 B33 L34 L35 L38 L39 hX0 hY0
  clear L44 L45 L46 L47
  obtain ⟨b51, ob51, rfl, _, _, _, _⟩ := L50.out.at (i := 0) (by decide)
  have n52 := Abx.new v3 (.bool false) (.slice f1 0 g1) (.slice (some ⟨b51, ob51, none⟩) 1 g2)
  have l53 := (n52).c0
  have l54 := (n52).c1
  have l55 := (n52).c2
  obtain ⟨_, _, l56e, _, _, l56, _⟩ := ((L50.out.al (by omega) (.cells #[.bool false, .slice f1 0 g1, .slice (some ⟨b51, ob51, none⟩) 1 g2] 25))).at (i := 0) (by decide)
  cases l56e
  try simp only [Nat.add_zero] at l56
  go_wp2_with fail
  obtain ⟨wo57, hwo57⟩ : ∃ wo57, wo57 = (v3.alloc (.cells #[.bool false, .slice f1 0 g1, .slice (some ⟨b51, ob51, none⟩) 1 g2] 25)) := ⟨_, rfl⟩
  rw [← hwo57]
  have z58 : v3.heap.size + 1 ≤ wo57.heap.size := by rw [hwo57]; simp only [World.size_alloc]; omega
  have B59 : Hid (Abx wo57 (w.heap.size) (.bool false) (.slice (some ⟨b1, o1, none⟩) sz1.length sc1) (.slice da1 dz1.length dc1)) := by rw [hwo57]; exact (B41.out.al (.cells #[.bool false, .slice f1 0 g1, .slice (some ⟨b51, ob51, none⟩) 1 g2] 25))
  have B60 : Hid (Abx wo57 (w.heap.size + 1) (.bool false) (.slice (some ⟨b2, o2, none⟩) sz2.length sc2) (.slice da2 dz2.length dc2)) := by rw [hwo57]; exact (B42.out.al (.cells #[.bool false, .slice f1 0 g1, .slice (some ⟨b51, ob51, none⟩) 1 g2] 25))
  have B61 : Hid (Abx wo57 (w.heap.size + 1 + 1) (.bool false) (.slice (some ⟨b3, o3, none⟩) sz3.length sc3) (.slice da3 dz3.length dc3)) := by rw [hwo57]; exact (B43.out.al (.cells #[.bool false, .slice f1 0 g1, .slice (some ⟨b51, ob51, none⟩) 1 g2] 25))
  have B62 : Hid (Abx wo57 (v3.heap.size) (.bool false) (.slice f1 0 g1) (.slice (some ⟨b51, ob51, none⟩) 1 g2)) := by rw [hwo57]; exact n52
  have L63 : Hid (MidC (v2.heap.size) (v3.heap.size) wo57 (f1) ([]) (g1)) := by rw [hwo57]; exact (L49.out.al (by omega) (.cells #[.bool false, .slice f1 0 g1, .slice (some ⟨b51, ob51, none⟩) 1 g2] 25))
  have L64 : Hid (MidC (v2.heap.size) (v3.heap.size) wo57 (some ⟨b51, ob51, none⟩) ([32]) (g2)) := by rw [hwo57]; exact (L50.out.al (by omega) (.cells #[.bool false, .slice f1 0 g1, .slice (some ⟨b51, ob51, none⟩) 1 g2] 25))
  have hb65 : Hid (Below w.heap.size w wo57) := by rw [hwo57]; exact (hb48.out.alloc (by omega) (.cells #[.bool false, .slice f1 0 g1, .slice (some ⟨b51, ob51, none⟩) 1 g2] 25))
  have zwo57 : w.heap.size ≤ wo57.heap.size := hb65.out.size
  clear hwo57 n52 l53 l54 l55 l56 hb48 B41 B42 B43 L49 L50
  clear L63 L64 B62
  have sx11 : wo57.cell? ⟨b1, o1 + 1, none⟩ = some (.int .i64 n1) := (hb65.out.cell (p := ⟨b1, o1 + 1, none⟩) HC1.out.1).trans HC1.out.2.2
  have sx20 : wo57.cell? ⟨b2, o2, none⟩ = some (.int .i64 m2) := (hb65.out.cell (p := ⟨b2, o2, none⟩) HC2.out.1).trans HC2.out.2.1
  have sx21 : wo57.cell? ⟨b2, o2 + 1, none⟩ = some (.int .i64 n2) := (hb65.out.cell (p := ⟨b2, o2 + 1, none⟩) HC2.out.1).trans HC2.out.2.2
  have sx30 : wo57.cell? ⟨b3, o3, none⟩ = some (.int .i64 m3) := (hb65.out.cell (p := ⟨b3, o3, none⟩) HC3.out.1).trans HC3.out.2.1
  have hb0 : Below wo57.heap.size wo57 wo57.drew := (Below.refl _ wo57).drew
  refine anyC_begin (fun w' => w'.cell? ⟨w.heap.size, 0, none⟩ = some (.bool false) ∧ w'.cell? ⟨w.heap.size, 1, none⟩ = some (.slice (some ⟨b1, o1, none⟩) sz1.length sc1) ∧ w'.cell? ⟨w.heap.size, 2, none⟩ = some (.slice da1 dz1.length dc1) ∧ w'.cell? ⟨w.heap.size + 1, 0, none⟩ = some (.bool false) ∧ w'.cell? ⟨w.heap.size + 1, 1, none⟩ = some (.slice (some ⟨b2, o2, none⟩) sz2.length sc2) ∧ w'.cell? ⟨w.heap.size + 1, 2, none⟩ = some (.slice da2 dz2.length dc2) ∧ w'.cell? ⟨w.heap.size + 1 + 1, 0, none⟩ = some (.bool false) ∧ w'.cell? ⟨w.heap.size + 1 + 1, 1, none⟩ = some (.slice (some ⟨b3, o3, none⟩) sz3.length sc3) ∧ w'.cell? ⟨w.heap.size + 1 + 1, 2, none⟩ = some (.slice da3 dz3.length dc3) ∧ w'.cell? ⟨b1, o1 + 1, none⟩ = some (.int .i64 n1) ∧ w'.cell? ⟨b2, o2, none⟩ = some (.int .i64 m2) ∧ w'.cell? ⟨b2, o2 + 1, none⟩ = some (.int .i64 n2) ∧ w'.cell? ⟨b3, o3, none⟩ = some (.int .i64 m3)) 41 #[false, false, false, false, false, false, false, false, false, false, false, false, false, false, false, false, false, false, false, false, false, false, false, false, false, false, false, false, false, false, false, false, false, false, false, false, false, false, false, false, false] (by kernel_rfl) rfl rfl ?_
  refine anyC_put 0 43 ?rv215 #[true, false, false, false, false, false, false, false, false, false, false, false, false, false, false, false, false, false, false, false, false, false, false, false, false, false, false, false, false, false, false, false, false, false, false, false, false, false, false, false, false] rfl rfl rfl (by kernel_rfl) (by kernel_rfl) (by kernel_rfl) (fun _ _ _ h => h) ?ry215 (⟨(B59.out.go hb0).c0, (B59.out.go hb0).c1, (B59.out.go hb0).c2, (B60.out.go hb0).c0, (B60.out.go hb0).c1, (B60.out.go hb0).c2, (B61.out.go hb0).c0, (B61.out.go hb0).c1, (B61.out.go hb0).c2, cell_to sx11 hb0, cell_to sx20 hb0, cell_to sx21 hb0, cell_to sx30 hb0⟩) ?rm215
  case ry215 => first | exact Or.inl ⟨by rfl, by intro w'; go_simp; first | done | rfl⟩
  case rm215 =>
  simp only [Act.put, List.setIfInBounds_toArray, List.set_cons_zero, List.set_cons_succ]
  refine anyC_put 1 44 ?rv216 #[true, true, false, false, false, false, false, false, false, false, false, false, false, false, false, false, false, false, false, false, false, false, false, false, false, false, false, false, false, false, false, false, false, false, false, false, false, false, false, false, false] rfl rfl rfl (by kernel_rfl) (by kernel_rfl) (by kernel_rfl) (fun _ _ _ h => h) ?ry216 (⟨(B59.out.go hb0).c0, (B59.out.go hb0).c1, (B59.out.go hb0).c2, (B60.out.go hb0).c0, (B60.out.go hb0).c1, (B60.out.go hb0).c2, (B61.out.go hb0).c0, (B61.out.go hb0).c1, (B61.out.go hb0).c2, cell_to sx11 hb0, cell_to sx20 hb0, cell_to sx21 hb0, cell_to sx30 hb0⟩) ?rm216
  case ry216 => first | exact Or.inl ⟨by rfl, by intro w'; go_simp; first | done | rfl⟩
  case rm216 =>
  simp only [Act.put, List.setIfInBounds_toArray, List.set_cons_zero, List.set_cons_succ]
  refine anyC_one 2 #[true, true, true, false, false, false, false, false, false, false, false, false, false, false, false, false, false, false, false, false, false, false, false, false, false, false, false, false, false, false, false, false, false, false, false, false, false, false, false, false, false] (by kernel_rfl) rfl rfl (fun K hK => ?_)
  go_simp
  go_wp2_with (go_at_call 9; refine (sring_any f g _).mono ?_; rintro e ysr ⟨rfl, hysr⟩; obtain rfl := hysr.symm; rw [srB_yes GS.out])
  refine hK.out _ _ (⟨(B59.out.go hb0).c0, (B59.out.go hb0).c1, (B59.out.go hb0).c2, (B60.out.go hb0).c0, (B60.out.go hb0).c1, (B60.out.go hb0).c2, (B61.out.go hb0).c0, (B61.out.go hb0).c1, (B61.out.go hb0).c2, cell_to sx11 hb0, cell_to sx20 hb0, cell_to sx21 hb0, cell_to sx30 hb0⟩) ?_
  clear hK K
  refine anyC_put 3 46 ?rv218 #[true, true, true, true, false, false, false, false, false, false, false, false, false, false, false, false, false, false, false, false, false, false, false, false, false, false, false, false, false, false, false, false, false, false, false, false, false, false, false, false, false] rfl rfl rfl (by kernel_rfl) (by kernel_rfl) (by kernel_rfl) (fun _ _ _ h => h) ?ry218 (⟨(B59.out.go hb0).c0, (B59.out.go hb0).c1, (B59.out.go hb0).c2, (B60.out.go hb0).c0, (B60.out.go hb0).c1, (B60.out.go hb0).c2, (B61.out.go hb0).c0, (B61.out.go hb0).c1, (B61.out.go hb0).c2, cell_to sx11 hb0, cell_to sx20 hb0, cell_to sx21 hb0, cell_to sx30 hb0⟩) ?rm218
  case ry218 => first | exact Or.inl ⟨by rfl, by intro w'; go_simp; first | done | rfl⟩
  case rm218 =>
  simp only [Act.put, List.setIfInBounds_toArray, List.set_cons_zero, List.set_cons_succ]
  refine anyC_put 4 47 ?rv219 #[true, true, true, true, true, false, false, false, false, false, false, false, false, false, false, false, false, false, false, false, false, false, false, false, false, false, false, false, false, false, false, false, false, false, false, false, false, false, false, false, false] rfl rfl rfl (by kernel_rfl) (by kernel_rfl) (by kernel_rfl) (fun _ _ _ h => h) ?ry219 (⟨(B59.out.go hb0).c0, (B59.out.go hb0).c1, (B59.out.go hb0).c2, (B60.out.go hb0).c0, (B60.out.go hb0).c1, (B60.out.go hb0).c2, (B61.out.go hb0).c0, (B61.out.go hb0).c1, (B61.out.go hb0).c2, cell_to sx11 hb0, cell_to sx20 hb0, cell_to sx21 hb0, cell_to sx30 hb0⟩) ?rm219
  case ry219 => first | exact Or.inl ⟨by rfl, by intro w'; go_simp; first | done | rfl⟩
  case rm219 =>
  simp only [Act.put, List.setIfInBounds_toArray, List.set_cons_zero, List.set_cons_succ]
  refine anyC_take 5 48 ?rv220 #[true, true, true, true, true, true, false, false, false, false, false, false, false, false, false, false, false, false, false, false, false, false, false, false, false, false, false, false, false, false, false, false, false, false, false, false, false, false, false, false, false] rfl rfl rfl (by kernel_rfl) (by kernel_rfl) (by kernel_rfl) (fun _ _ _ h => h) ?ry220 (⟨(B59.out.go hb0).c0, (B59.out.go hb0).c1, (B59.out.go hb0).c2, (B60.out.go hb0).c0, (B60.out.go hb0).c1, (B60.out.go hb0).c2, (B61.out.go hb0).c0, (B61.out.go hb0).c1, (B61.out.go hb0).c2, cell_to sx11 hb0, cell_to sx20 hb0, cell_to sx21 hb0, cell_to sx30 hb0⟩) ?rm220
  case ry220 => first | exact Or.inl ⟨by rfl, by intro w' hw'; (try dsimp only at hw'); go_simp; first | done | rfl⟩ | exact Or.inr ⟨by rfl, rfl⟩ | exact Or.inr ⟨by rfl, by rfl⟩
  case rm220 =>
  simp only [Act.put, List.setIfInBounds_toArray, List.set_cons_zero, List.set_cons_succ]
  refine anyC_one 6 #[true, true, true, true, true, true, true, false, false, false, false, false, false, false, false, false, false, false, false, false, false, false, false, false, false, false, false, false, false, false, false, false, false, false, false, false, false, false, false, false, false] (by kernel_rfl) rfl rfl (fun K hK => ?_)
  go_simp
  go_wp2_with (go_at_call 10; refine (grid_yes 16 (by decide) false (some ⟨b1, o1, none⟩) sc1 sz1 da1 dc1 dz1 _ ((HI1.out.1.1.below (hb65.out.trans (hb0.mono hb65.out.size))).mono (hb65.out.trans (hb0.mono hb65.out.size)).size) G1.out).mono ?_; rintro e y1 ⟨rfl, hBy1⟩)
  have hby1 : Below wo57.heap.size wo57 y1 := hb0.trans (hBy1.mono hb0.size)
  refine hK.out _ _ (⟨(B59.out.go hby1).c0, (B59.out.go hby1).c1, (B59.out.go hby1).c2, (B60.out.go hby1).c0, (B60.out.go hby1).c1, (B60.out.go hby1).c2, (B61.out.go hby1).c0, (B61.out.go hby1).c1, (B61.out.go hby1).c2, cell_to sx11 hby1, cell_to sx20 hby1, cell_to sx21 hby1, cell_to sx30 hby1⟩) ?_
  clear hK K
  refine anyC_put 7 50 ?rv222 #[true, true, true, true, true, true, true, true, false, false, false, false, false, false, false, false, false, false, false, false, false, false, false, false, false, false, false, false, false, false, false, false, false, false, false, false, false, false, false, false, false] rfl rfl rfl (by kernel_rfl) (by kernel_rfl) (by kernel_rfl) (fun _ _ _ h => h) ?ry222 (⟨(B59.out.go hby1).c0, (B59.out.go hby1).c1, (B59.out.go hby1).c2, (B60.out.go hby1).c0, (B60.out.go hby1).c1, (B60.out.go hby1).c2, (B61.out.go hby1).c0, (B61.out.go hby1).c1, (B61.out.go hby1).c2, cell_to sx11 hby1, cell_to sx20 hby1, cell_to sx21 hby1, cell_to sx30 hby1⟩) ?rm222
  case ry222 => first | exact Or.inl ⟨by rfl, by intro w'; go_simp; first | done | rfl⟩ | exact Or.inr ⟨by rfl, rfl⟩ | exact Or.inr ⟨by rfl, by rfl⟩
  case rm222 =>
  simp only [Act.put, List.setIfInBounds_toArray, List.set_cons_zero, List.set_cons_succ]
  refine anyC_put 8 51 ?rv223 #[true, true, true, true, true, true, true, true, true, false, false, false, false, false, false, false, false, false, false, false, false, false, false, false, false, false, false, false, false, false, false, false, false, false, false, false, false, false, false, false, false] rfl rfl rfl (by kernel_rfl) (by kernel_rfl) (by kernel_rfl) (fun _ _ _ h => h) ?ry223 (⟨(B59.out.go hby1).c0, (B59.out.go hby1).c1, (B59.out.go hby1).c2, (B60.out.go hby1).c0, (B60.out.go hby1).c1, (B60.out.go hby1).c2, (B61.out.go hby1).c0, (B61.out.go hby1).c1, (B61.out.go hby1).c2, cell_to sx11 hby1, cell_to sx20 hby1, cell_to sx21 hby1, cell_to sx30 hby1⟩) ?rm223
  case ry223 => first | exact Or.inl ⟨by rfl, by intro w'; go_simp; first | done | rfl⟩
  case rm223 =>
  simp only [Act.put, List.setIfInBounds_toArray, List.set_cons_zero, List.set_cons_succ]
  refine anyC_put 9 52 ?rv224 #[true, true, true, true, true, true, true, true, true, true, false, false, false, false, false, false, false, false, false, false, false, false, false, false, false, false, false, false, false, false, false, false, false, false, false, false, false, false, false, false, false] rfl rfl rfl (by kernel_rfl) (by kernel_rfl) (by kernel_rfl) (fun _ _ _ h => h) ?ry224 (⟨(B59.out.go hby1).c0, (B59.out.go hby1).c1, (B59.out.go hby1).c2, (B60.out.go hby1).c0, (B60.out.go hby1).c1, (B60.out.go hby1).c2, (B61.out.go hby1).c0, (B61.out.go hby1).c1, (B61.out.go hby1).c2, cell_to sx11 hby1, cell_to sx20 hby1, cell_to sx21 hby1, cell_to sx30 hby1⟩) ?rm224
  case ry224 => first | exact Or.inl ⟨by rfl, by intro w'; go_simp; first | done | rfl⟩
  case rm224 =>
  simp only [Act.put, List.setIfInBounds_toArray, List.set_cons_zero, List.set_cons_succ]
  refine anyC_take 10 53 ?rv225 #[true, true, true, true, true, true, true, true, true, true, true, false, false, false, false, false, false, false, false, false, false, false, false, false, false, false, false, false, false, false, false, false, false, false, false, false, false, false, false, false, false] rfl rfl rfl (by kernel_rfl) (by kernel_rfl) (by kernel_rfl) (fun _ _ _ h => h) ?ry225 (⟨(B59.out.go hby1).c0, (B59.out.go hby1).c1, (B59.out.go hby1).c2, (B60.out.go hby1).c0, (B60.out.go hby1).c1, (B60.out.go hby1).c2, (B61.out.go hby1).c0, (B61.out.go hby1).c1, (B61.out.go hby1).c2, cell_to sx11 hby1, cell_to sx20 hby1, cell_to sx21 hby1, cell_to sx30 hby1⟩) ?rm225
  case ry225 => first | exact Or.inl ⟨by rfl, by intro w' hw'; (try dsimp only at hw'); go_simp; first | done | rfl⟩ | exact Or.inr ⟨by rfl, rfl⟩ | exact Or.inr ⟨by rfl, by rfl⟩
  case rm225 =>
  simp only [Act.put, List.setIfInBounds_toArray, List.set_cons_zero, List.set_cons_succ]
  refine anyC_one 11 #[true, true, true, true, true, true, true, true, true, true, true, true, false, false, false, false, false, false, false, false, false, false, false, false, false, false, false, false, false, false, false, false, false, false, false, false, false, false, false, false, false] (by kernel_rfl) rfl rfl (fun K hK => ?_)
  go_simp
  go_wp2_with (go_at_call 10; refine (grid_yes 16 (by decide) false (some ⟨b2, o2, none⟩) sc2 sz2 da2 dc2 dz2 _ ((HI2.out.1.1.below (hb65.out.trans (hby1.mono hb65.out.size))).mono (hb65.out.trans (hby1.mono hb65.out.size)).size) G2.out).mono ?_; rintro e y2 ⟨rfl, hBy2⟩)
  have hby2 : Below wo57.heap.size wo57 y2 := hby1.trans (hBy2.mono hby1.size)
  refine hK.out _ _ (⟨(B59.out.go hby2).c0, (B59.out.go hby2).c1, (B59.out.go hby2).c2, (B60.out.go hby2).c0, (B60.out.go hby2).c1, (B60.out.go hby2).c2, (B61.out.go hby2).c0, (B61.out.go hby2).c1, (B61.out.go hby2).c2, cell_to sx11 hby2, cell_to sx20 hby2, cell_to sx21 hby2, cell_to sx30 hby2⟩) ?_
  clear hK K
  refine anyC_put 12 55 ?rv227 #[true, true, true, true, true, true, true, true, true, true, true, true, true, false, false, false, false, false, false, false, false, false, false, false, false, false, false, false, false, false, false, false, false, false, false, false, false, false, false, false, false] rfl rfl rfl (by kernel_rfl) (by kernel_rfl) (by kernel_rfl) (fun _ _ _ h => h) ?ry227 (⟨(B59.out.go hby2).c0, (B59.out.go hby2).c1, (B59.out.go hby2).c2, (B60.out.go hby2).c0, (B60.out.go hby2).c1, (B60.out.go hby2).c2, (B61.out.go hby2).c0, (B61.out.go hby2).c1, (B61.out.go hby2).c2, cell_to sx11 hby2, cell_to sx20 hby2, cell_to sx21 hby2, cell_to sx30 hby2⟩) ?rm227
  case ry227 => first | exact Or.inl ⟨by rfl, by intro w'; go_simp; first | done | rfl⟩ | exact Or.inr ⟨by rfl, rfl⟩ | exact Or.inr ⟨by rfl, by rfl⟩
  case rm227 =>
  simp only [Act.put, List.setIfInBounds_toArray, List.set_cons_zero, List.set_cons_succ]
  refine anyC_put 13 56 ?rv228 #[true, true, true, true, true, true, true, true, true, true, true, true, true, true, false, false, false, false, false, false, false, false, false, false, false, false, false, false, false, false, false, false, false, false, false, false, false, false, false, false, false] rfl rfl rfl (by kernel_rfl) (by kernel_rfl) (by kernel_rfl) (fun _ _ _ h => h) ?ry228 (⟨(B59.out.go hby2).c0, (B59.out.go hby2).c1, (B59.out.go hby2).c2, (B60.out.go hby2).c0, (B60.out.go hby2).c1, (B60.out.go hby2).c2, (B61.out.go hby2).c0, (B61.out.go hby2).c1, (B61.out.go hby2).c2, cell_to sx11 hby2, cell_to sx20 hby2, cell_to sx21 hby2, cell_to sx30 hby2⟩) ?rm228
  case ry228 => first | exact Or.inl ⟨by rfl, by intro w'; go_simp; first | done | rfl⟩
  case rm228 =>
  simp only [Act.put, List.setIfInBounds_toArray, List.set_cons_zero, List.set_cons_succ]
  refine anyC_put 14 57 ?rv229 #[true, true, true, true, true, true, true, true, true, true, true, true, true, true, true, false, false, false, false, false, false, false, false, false, false, false, false, false, false, false, false, false, false, false, false, false, false, false, false, false, false] rfl rfl rfl (by kernel_rfl) (by kernel_rfl) (by kernel_rfl) (fun _ _ _ h => h) ?ry229 (⟨(B59.out.go hby2).c0, (B59.out.go hby2).c1, (B59.out.go hby2).c2, (B60.out.go hby2).c0, (B60.out.go hby2).c1, (B60.out.go hby2).c2, (B61.out.go hby2).c0, (B61.out.go hby2).c1, (B61.out.go hby2).c2, cell_to sx11 hby2, cell_to sx20 hby2, cell_to sx21 hby2, cell_to sx30 hby2⟩) ?rm229
  case ry229 => first | exact Or.inl ⟨by rfl, by intro w'; go_simp; first | done | rfl⟩
  case rm229 =>
  simp only [Act.put, List.setIfInBounds_toArray, List.set_cons_zero, List.set_cons_succ]
  refine anyC_take 15 58 ?rv230 #[true, true, true, true, true, true, true, true, true, true, true, true, true, true, true, true, false, false, false, false, false, false, false, false, false, false, false, false, false, false, false, false, false, false, false, false, false, false, false, false, false] rfl rfl rfl (by kernel_rfl) (by kernel_rfl) (by kernel_rfl) (fun _ _ _ h => h) ?ry230 (⟨(B59.out.go hby2).c0, (B59.out.go hby2).c1, (B59.out.go hby2).c2, (B60.out.go hby2).c0, (B60.out.go hby2).c1, (B60.out.go hby2).c2, (B61.out.go hby2).c0, (B61.out.go hby2).c1, (B61.out.go hby2).c2, cell_to sx11 hby2, cell_to sx20 hby2, cell_to sx21 hby2, cell_to sx30 hby2⟩) ?rm230
  case ry230 => first | exact Or.inl ⟨by rfl, by intro w' hw'; (try dsimp only at hw'); go_simp; first | done | rfl⟩ | exact Or.inr ⟨by rfl, rfl⟩ | exact Or.inr ⟨by rfl, by rfl⟩
  case rm230 =>
  simp only [Act.put, List.setIfInBounds_toArray, List.set_cons_zero, List.set_cons_succ]
  refine anyC_one 16 #[true, true, true, true, true, true, true, true, true, true, true, true, true, true, true, true, true, false, false, false, false, false, false, false, false, false, false, false, false, false, false, false, false, false, false, false, false, false, false, false, false] (by kernel_rfl) rfl rfl (fun K hK => ?_)
  go_simp
  go_wp2_with (go_at_call 10; refine (grid_yes 16 (by decide) false (some ⟨b3, o3, none⟩) sc3 sz3 da3 dc3 dz3 _ ((HI3.out.1.1.below (hb65.out.trans (hby2.mono hb65.out.size))).mono (hb65.out.trans (hby2.mono hb65.out.size)).size) G3.out).mono ?_; rintro e y3 ⟨rfl, hBy3⟩)
  have hby3 : Below wo57.heap.size wo57 y3 := hby2.trans (hBy3.mono hby2.size)
  refine hK.out _ _ (⟨(B59.out.go hby3).c0, (B59.out.go hby3).c1, (B59.out.go hby3).c2, (B60.out.go hby3).c0, (B60.out.go hby3).c1, (B60.out.go hby3).c2, (B61.out.go hby3).c0, (B61.out.go hby3).c1, (B61.out.go hby3).c2, cell_to sx11 hby3, cell_to sx20 hby3, cell_to sx21 hby3, cell_to sx30 hby3⟩) ?_
  clear hK K
  refine anyC_put 17 60 ?rv232 #[true, true, true, true, true, true, true, true, true, true, true, true, true, true, true, true, true, true, false, false, false, false, false, false, false, false, false, false, false, false, false, false, false, false, false, false, false, false, false, false, false] rfl rfl rfl (by kernel_rfl) (by kernel_rfl) (by kernel_rfl) (fun _ _ _ h => h) ?ry232 (⟨(B59.out.go hby3).c0, (B59.out.go hby3).c1, (B59.out.go hby3).c2, (B60.out.go hby3).c0, (B60.out.go hby3).c1, (B60.out.go hby3).c2, (B61.out.go hby3).c0, (B61.out.go hby3).c1, (B61.out.go hby3).c2, cell_to sx11 hby3, cell_to sx20 hby3, cell_to sx21 hby3, cell_to sx30 hby3⟩) ?rm232
  case ry232 => first | exact Or.inl ⟨by rfl, by intro w'; go_simp; first | done | rfl⟩ | exact Or.inr ⟨by rfl, rfl⟩ | exact Or.inr ⟨by rfl, by rfl⟩
  case rm232 =>
  simp only [Act.put, List.setIfInBounds_toArray, List.set_cons_zero, List.set_cons_succ]
  refine anyC_put 18 61 ?rv233 #[true, true, true, true, true, true, true, true, true, true, true, true, true, true, true, true, true, true, true, false, false, false, false, false, false, false, false, false, false, false, false, false, false, false, false, false, false, false, false, false, false] rfl rfl rfl (by kernel_rfl) (by kernel_rfl) (by kernel_rfl) (fun _ _ _ h => h) ?ry233 (⟨(B59.out.go hby3).c0, (B59.out.go hby3).c1, (B59.out.go hby3).c2, (B60.out.go hby3).c0, (B60.out.go hby3).c1, (B60.out.go hby3).c2, (B61.out.go hby3).c0, (B61.out.go hby3).c1, (B61.out.go hby3).c2, cell_to sx11 hby3, cell_to sx20 hby3, cell_to sx21 hby3, cell_to sx30 hby3⟩) ?rm233
  case ry233 => first | exact Or.inl ⟨by rfl, by intro w'; go_simp; first | done | rfl⟩
  case rm233 =>
  simp only [Act.put, List.setIfInBounds_toArray, List.set_cons_zero, List.set_cons_succ]
  refine anyC_put 19 62 ?rv234 #[true, true, true, true, true, true, true, true, true, true, true, true, true, true, true, true, true, true, true, true, false, false, false, false, false, false, false, false, false, false, false, false, false, false, false, false, false, false, false, false, false] rfl rfl rfl (by kernel_rfl) (by kernel_rfl) (by kernel_rfl) (fun _ _ _ h => h) ?ry234 (⟨(B59.out.go hby3).c0, (B59.out.go hby3).c1, (B59.out.go hby3).c2, (B60.out.go hby3).c0, (B60.out.go hby3).c1, (B60.out.go hby3).c2, (B61.out.go hby3).c0, (B61.out.go hby3).c1, (B61.out.go hby3).c2, cell_to sx11 hby3, cell_to sx20 hby3, cell_to sx21 hby3, cell_to sx30 hby3⟩) ?rm234
  case ry234 => first | exact Or.inl ⟨by rfl, by intro w'; go_simp; first | done | rfl⟩
  case rm234 =>
  simp only [Act.put, List.setIfInBounds_toArray, List.set_cons_zero, List.set_cons_succ]
  refine anyC_put 20 63 ?rv235 #[true, true, true, true, true, true, true, true, true, true, true, true, true, true, true, true, true, true, true, true, true, false, false, false, false, false, false, false, false, false, false, false, false, false, false, false, false, false, false, false, false] rfl rfl rfl (by kernel_rfl) (by kernel_rfl) (by kernel_rfl) (fun _ _ _ h => h) ?ry235 (⟨(B59.out.go hby3).c0, (B59.out.go hby3).c1, (B59.out.go hby3).c2, (B60.out.go hby3).c0, (B60.out.go hby3).c1, (B60.out.go hby3).c2, (B61.out.go hby3).c0, (B61.out.go hby3).c1, (B61.out.go hby3).c2, cell_to sx11 hby3, cell_to sx20 hby3, cell_to sx21 hby3, cell_to sx30 hby3⟩) ?rm235
  case ry235 => first | exact Or.inl ⟨by rfl, by intro w'; go_simp; first | done | rfl⟩ | exact Or.inr ⟨by rfl, rfl⟩ | exact Or.inr ⟨by rfl, by rfl⟩
  case rm235 =>
  simp only [Act.put, List.setIfInBounds_toArray, List.set_cons_zero, List.set_cons_succ]
  refine anyC_take 21 64 ?rv236 #[true, true, true, true, true, true, true, true, true, true, true, true, true, true, true, true, true, true, true, true, true, true, false, false, false, false, false, false, false, false, false, false, false, false, false, false, false, false, false, false, false] rfl rfl rfl (by kernel_rfl) (by kernel_rfl) (by kernel_rfl) (fun _ _ _ h => h) ?ry236 (⟨(B59.out.go hby3).c0, (B59.out.go hby3).c1, (B59.out.go hby3).c2, (B60.out.go hby3).c0, (B60.out.go hby3).c1, (B60.out.go hby3).c2, (B61.out.go hby3).c0, (B61.out.go hby3).c1, (B61.out.go hby3).c2, cell_to sx11 hby3, cell_to sx20 hby3, cell_to sx21 hby3, cell_to sx30 hby3⟩) ?rm236
  case ry236 => first | exact Or.inl ⟨by rfl, by intro w' hw'; (try dsimp only at hw'); go_simp; first | done | rfl⟩ | exact Or.inr ⟨by rfl, rfl⟩ | exact Or.inr ⟨by rfl, by rfl⟩
  case rm236 =>
  simp only [Act.put, List.setIfInBounds_toArray, List.set_cons_zero, List.set_cons_succ]
  refine anyC_put 22 65 ?rv237 #[true, true, true, true, true, true, true, true, true, true, true, true, true, true, true, true, true, true, true, true, true, true, true, false, false, false, false, false, false, false, false, false, false, false, false, false, false, false, false, false, false] rfl rfl rfl (by kernel_rfl) (by kernel_rfl) (by kernel_rfl) (fun _ _ _ h => h) ?ry237 (⟨(B59.out.go hby3).c0, (B59.out.go hby3).c1, (B59.out.go hby3).c2, (B60.out.go hby3).c0, (B60.out.go hby3).c1, (B60.out.go hby3).c2, (B61.out.go hby3).c0, (B61.out.go hby3).c1, (B61.out.go hby3).c2, cell_to sx11 hby3, cell_to sx20 hby3, cell_to sx21 hby3, cell_to sx30 hby3⟩) ?rm237
  case ry237 => first | exact Or.inl ⟨by rfl, by intro w'; go_simp; first | done | rfl⟩ | exact Or.inr ⟨by rfl, rfl⟩ | exact Or.inr ⟨by rfl, by rfl⟩
  case rm237 =>
  simp only [Act.put, List.setIfInBounds_toArray, List.set_cons_zero, List.set_cons_succ]
  refine anyC_take 23 66 ?rv238 #[true, true, true, true, true, true, true, true, true, true, true, true, true, true, true, true, true, true, true, true, true, true, true, true, false, false, false, false, false, false, false, false, false, false, false, false, false, false, false, false, false] rfl rfl rfl (by kernel_rfl) (by kernel_rfl) (by kernel_rfl) (fun _ _ _ h => h) ?ry238 (⟨(B59.out.go hby3).c0, (B59.out.go hby3).c1, (B59.out.go hby3).c2, (B60.out.go hby3).c0, (B60.out.go hby3).c1, (B60.out.go hby3).c2, (B61.out.go hby3).c0, (B61.out.go hby3).c1, (B61.out.go hby3).c2, cell_to sx11 hby3, cell_to sx20 hby3, cell_to sx21 hby3, cell_to sx30 hby3⟩) ?rm238
  case ry238 => first | exact Or.inl ⟨by rfl, by intro w' hw'; (try dsimp only at hw'); go_simp; first | done | rfl⟩ | exact Or.inr ⟨by rfl, rfl⟩ | exact Or.inr ⟨by rfl, by rfl⟩
  case rm238 =>
  simp only [Act.put, List.setIfInBounds_toArray, List.set_cons_zero, List.set_cons_succ]
  refine anyC_put 24 67 ?rv239 #[true, true, true, true, true, true, true, true, true, true, true, true, true, true, true, true, true, true, true, true, true, true, true, true, true, false, false, false, false, false, false, false, false, false, false, false, false, false, false, false, false] rfl rfl rfl (by kernel_rfl) (by kernel_rfl) (by kernel_rfl) (fun _ _ _ h => h) ?ry239 (⟨(B59.out.go hby3).c0, (B59.out.go hby3).c1, (B59.out.go hby3).c2, (B60.out.go hby3).c0, (B60.out.go hby3).c1, (B60.out.go hby3).c2, (B61.out.go hby3).c0, (B61.out.go hby3).c1, (B61.out.go hby3).c2, cell_to sx11 hby3, cell_to sx20 hby3, cell_to sx21 hby3, cell_to sx30 hby3⟩) ?rm239
  case ry239 => first | exact Or.inl ⟨by rfl, by intro w'; go_simp; first | done | rfl⟩ | exact Or.inr ⟨by rfl, rfl⟩ | exact Or.inr ⟨by rfl, by rfl⟩
  case rm239 =>
  simp only [Act.put, List.setIfInBounds_toArray, List.set_cons_zero, List.set_cons_succ]
  refine anyC_take 25 68 ?rv240 #[true, true, true, true, true, true, true, true, true, true, true, true, true, true, true, true, true, true, true, true, true, true, true, true, true, true, false, false, false, false, false, false, false, false, false, false, false, false, false, false, false] rfl rfl rfl (by kernel_rfl) (by kernel_rfl) (by kernel_rfl) (fun _ _ _ h => h) ?ry240 (⟨(B59.out.go hby3).c0, (B59.out.go hby3).c1, (B59.out.go hby3).c2, (B60.out.go hby3).c0, (B60.out.go hby3).c1, (B60.out.go hby3).c2, (B61.out.go hby3).c0, (B61.out.go hby3).c1, (B61.out.go hby3).c2, cell_to sx11 hby3, cell_to sx20 hby3, cell_to sx21 hby3, cell_to sx30 hby3⟩) ?rm240
  case ry240 => first | exact Or.inl ⟨by rfl, by intro w' hw'; (try dsimp only at hw'); go_simp; first | done | rfl⟩ | exact Or.inr ⟨by rfl, rfl⟩ | exact Or.inr ⟨by rfl, by rfl⟩
  case rm240 =>
  simp only [Act.put, List.setIfInBounds_toArray, List.set_cons_zero, List.set_cons_succ]
  refine anyC_put 26 69 ?rv241 #[true, true, true, true, true, true, true, true, true, true, true, true, true, true, true, true, true, true, true, true, true, true, true, true, true, true, true, false, false, false, false, false, false, false, false, false, false, false, false, false, false] rfl rfl rfl (by kernel_rfl) (by kernel_rfl) (by kernel_rfl) (fun _ _ _ h => h) ?ry241 (⟨(B59.out.go hby3).c0, (B59.out.go hby3).c1, (B59.out.go hby3).c2, (B60.out.go hby3).c0, (B60.out.go hby3).c1, (B60.out.go hby3).c2, (B61.out.go hby3).c0, (B61.out.go hby3).c1, (B61.out.go hby3).c2, cell_to sx11 hby3, cell_to sx20 hby3, cell_to sx21 hby3, cell_to sx30 hby3⟩) ?rm241
  case ry241 => first | exact Or.inl ⟨by rfl, by intro w'; go_simp; first | done | rfl⟩ | exact Or.inr ⟨by rfl, rfl⟩ | exact Or.inr ⟨by rfl, by rfl⟩
  case rm241 =>
  simp only [Act.put, List.setIfInBounds_toArray, List.set_cons_zero, List.set_cons_succ]
  refine anyC_take 27 70 ?rv242 #[true, true, true, true, true, true, true, true, true, true, true, true, true, true, true, true, true, true, true, true, true, true, true, true, true, true, true, true, false, false, false, false, false, false, false, false, false, false, false, false, false] rfl rfl rfl (by kernel_rfl) (by kernel_rfl) (by kernel_rfl) (fun _ _ _ h => h) ?ry242 (⟨(B59.out.go hby3).c0, (B59.out.go hby3).c1, (B59.out.go hby3).c2, (B60.out.go hby3).c0, (B60.out.go hby3).c1, (B60.out.go hby3).c2, (B61.out.go hby3).c0, (B61.out.go hby3).c1, (B61.out.go hby3).c2, cell_to sx11 hby3, cell_to sx20 hby3, cell_to sx21 hby3, cell_to sx30 hby3⟩) ?rm242
  case ry242 => first | exact Or.inl ⟨by rfl, by intro w' hw'; (try dsimp only at hw'); go_simp; first | done | rfl⟩ | exact Or.inr ⟨by rfl, rfl⟩ | exact Or.inr ⟨by rfl, by rfl⟩
  case rm242 =>
  simp only [Act.put, List.setIfInBounds_toArray, List.set_cons_zero, List.set_cons_succ]
  refine anyC_put 28 71 ?rv243 #[true, true, true, true, true, true, true, true, true, true, true, true, true, true, true, true, true, true, true, true, true, true, true, true, true, true, true, true, true, false, false, false, false, false, false, false, false, false, false, false, false] rfl rfl rfl (by kernel_rfl) (by kernel_rfl) (by kernel_rfl) (fun _ _ _ h => h) ?ry243 (⟨(B59.out.go hby3).c0, (B59.out.go hby3).c1, (B59.out.go hby3).c2, (B60.out.go hby3).c0, (B60.out.go hby3).c1, (B60.out.go hby3).c2, (B61.out.go hby3).c0, (B61.out.go hby3).c1, (B61.out.go hby3).c2, cell_to sx11 hby3, cell_to sx20 hby3, cell_to sx21 hby3, cell_to sx30 hby3⟩) ?rm243
  case ry243 => first | exact Or.inl ⟨by rfl, by intro w'; go_simp; first | done | rfl⟩ | exact Or.inr ⟨by rfl, rfl⟩ | exact Or.inr ⟨by rfl, by rfl⟩
  case rm243 =>
  simp only [Act.put, List.setIfInBounds_toArray, List.set_cons_zero, List.set_cons_succ]
  refine anyC_put 29 72 ?rv244 #[true, true, true, true, true, true, true, true, true, true, true, true, true, true, true, true, true, true, true, true, true, true, true, true, true, true, true, true, true, true, false, false, false, false, false, false, false, false, false, false, false] rfl rfl rfl (by kernel_rfl) (by kernel_rfl) (by kernel_rfl) (fun _ _ _ h => h) ?ry244 (⟨(B59.out.go hby3).c0, (B59.out.go hby3).c1, (B59.out.go hby3).c2, (B60.out.go hby3).c0, (B60.out.go hby3).c1, (B60.out.go hby3).c2, (B61.out.go hby3).c0, (B61.out.go hby3).c1, (B61.out.go hby3).c2, cell_to sx11 hby3, cell_to sx20 hby3, cell_to sx21 hby3, cell_to sx30 hby3⟩) ?rm244
  case ry244 => first | exact Or.inl ⟨by rfl, by intro w'; go_simp; first | done | rfl⟩
  case rm244 =>
  simp only [Act.put, List.setIfInBounds_toArray, List.set_cons_zero, List.set_cons_succ]
  refine anyC_put 30 73 ?rv245 #[true, true, true, true, true, true, true, true, true, true, true, true, true, true, true, true, true, true, true, true, true, true, true, true, true, true, true, true, true, true, true, false, false, false, false, false, false, false, false, false, false] rfl rfl rfl (by kernel_rfl) (by kernel_rfl) (by kernel_rfl) (fun _ _ _ h => h) ?ry245 (⟨(B59.out.go hby3).c0, (B59.out.go hby3).c1, (B59.out.go hby3).c2, (B60.out.go hby3).c0, (B60.out.go hby3).c1, (B60.out.go hby3).c2, (B61.out.go hby3).c0, (B61.out.go hby3).c1, (B61.out.go hby3).c2, cell_to sx11 hby3, cell_to sx20 hby3, cell_to sx21 hby3, cell_to sx30 hby3⟩) ?rm245
  case ry245 => first | exact Or.inl ⟨by rfl, by intro w'; go_simp; first | done | rfl⟩
  case rm245 =>
  simp only [Act.put, List.setIfInBounds_toArray, List.set_cons_zero, List.set_cons_succ]
  refine anyC_put 31 74 ?rv246 #[true, true, true, true, true, true, true, true, true, true, true, true, true, true, true, true, true, true, true, true, true, true, true, true, true, true, true, true, true, true, true, true, false, false, false, false, false, false, false, false, false] rfl rfl rfl (by kernel_rfl) (by kernel_rfl) (by kernel_rfl) (fun _ _ _ h => h) ?ry246 (⟨(B59.out.go hby3).c0, (B59.out.go hby3).c1, (B59.out.go hby3).c2, (B60.out.go hby3).c0, (B60.out.go hby3).c1, (B60.out.go hby3).c2, (B61.out.go hby3).c0, (B61.out.go hby3).c1, (B61.out.go hby3).c2, cell_to sx11 hby3, cell_to sx20 hby3, cell_to sx21 hby3, cell_to sx30 hby3⟩) ?rm246
  case ry246 => first | exact Or.inl ⟨by rfl, by intro w'; go_simp; first | done | rfl⟩ | exact Or.inr ⟨by rfl, rfl⟩ | exact Or.inr ⟨by rfl, by rfl⟩
  case rm246 =>
  simp only [Act.put, List.setIfInBounds_toArray, List.set_cons_zero, List.set_cons_succ]
  refine anyC_take 32 75 ?rv247 #[true, true, true, true, true, true, true, true, true, true, true, true, true, true, true, true, true, true, true, true, true, true, true, true, true, true, true, true, true, true, true, true, true, false, false, false, false, false, false, false, false] rfl rfl rfl (by kernel_rfl) (by kernel_rfl) (by kernel_rfl) (fun _ _ _ h => h) ?ry247 (⟨(B59.out.go hby3).c0, (B59.out.go hby3).c1, (B59.out.go hby3).c2, (B60.out.go hby3).c0, (B60.out.go hby3).c1, (B60.out.go hby3).c2, (B61.out.go hby3).c0, (B61.out.go hby3).c1, (B61.out.go hby3).c2, cell_to sx11 hby3, cell_to sx20 hby3, cell_to sx21 hby3, cell_to sx30 hby3⟩) ?rm247
  case ry247 => first | exact Or.inl ⟨by rfl, by intro w' hw'; (try dsimp only at hw'); go_simp; first | done | rfl⟩ | exact Or.inr ⟨by rfl, rfl⟩ | exact Or.inr ⟨by rfl, by rfl⟩
  case rm247 =>
  simp only [Act.put, List.setIfInBounds_toArray, List.set_cons_zero, List.set_cons_succ]
  refine anyC_put 33 76 ?rv248 #[true, true, true, true, true, true, true, true, true, true, true, true, true, true, true, true, true, true, true, true, true, true, true, true, true, true, true, true, true, true, true, true, true, true, false, false, false, false, false, false, false] rfl rfl rfl (by kernel_rfl) (by kernel_rfl) (by kernel_rfl) (fun _ _ _ h => h) ?ry248 (⟨(B59.out.go hby3).c0, (B59.out.go hby3).c1, (B59.out.go hby3).c2, (B60.out.go hby3).c0, (B60.out.go hby3).c1, (B60.out.go hby3).c2, (B61.out.go hby3).c0, (B61.out.go hby3).c1, (B61.out.go hby3).c2, cell_to sx11 hby3, cell_to sx20 hby3, cell_to sx21 hby3, cell_to sx30 hby3⟩) ?rm248
  case ry248 => first | exact Or.inl ⟨by rfl, by intro w'; go_simp; first | done | rfl⟩ | exact Or.inr ⟨by rfl, rfl⟩ | exact Or.inr ⟨by rfl, by rfl⟩
  case rm248 =>
  simp only [Act.put, List.setIfInBounds_toArray, List.set_cons_zero, List.set_cons_succ]
  refine anyC_take 34 77 ?rv249 #[true, true, true, true, true, true, true, true, true, true, true, true, true, true, true, true, true, true, true, true, true, true, true, true, true, true, true, true, true, true, true, true, true, true, true, false, false, false, false, false, false] rfl rfl rfl (by kernel_rfl) (by kernel_rfl) (by kernel_rfl) (fun _ _ _ h => h) ?ry249 (⟨(B59.out.go hby3).c0, (B59.out.go hby3).c1, (B59.out.go hby3).c2, (B60.out.go hby3).c0, (B60.out.go hby3).c1, (B60.out.go hby3).c2, (B61.out.go hby3).c0, (B61.out.go hby3).c1, (B61.out.go hby3).c2, cell_to sx11 hby3, cell_to sx20 hby3, cell_to sx21 hby3, cell_to sx30 hby3⟩) ?rm249
  case ry249 => first | exact Or.inl ⟨by rfl, by intro w' hw'; (try dsimp only at hw'); go_simp; first | done | rfl⟩ | exact Or.inr ⟨by rfl, rfl⟩ | exact Or.inr ⟨by rfl, by rfl⟩
  case rm249 =>
  simp only [Act.put, List.setIfInBounds_toArray, List.set_cons_zero, List.set_cons_succ]
  refine anyC_put 35 78 ?rv250 #[true, true, true, true, true, true, true, true, true, true, true, true, true, true, true, true, true, true, true, true, true, true, true, true, true, true, true, true, true, true, true, true, true, true, true, true, false, false, false, false, false] rfl rfl rfl (by kernel_rfl) (by kernel_rfl) (by kernel_rfl) (fun _ _ _ h => h) ?ry250 (⟨(B59.out.go hby3).c0, (B59.out.go hby3).c1, (B59.out.go hby3).c2, (B60.out.go hby3).c0, (B60.out.go hby3).c1, (B60.out.go hby3).c2, (B61.out.go hby3).c0, (B61.out.go hby3).c1, (B61.out.go hby3).c2, cell_to sx11 hby3, cell_to sx20 hby3, cell_to sx21 hby3, cell_to sx30 hby3⟩) ?rm250
  case ry250 => first | exact Or.inl ⟨by rfl, by intro w'; go_simp; first | done | rfl⟩ | exact Or.inr ⟨by rfl, rfl⟩ | exact Or.inr ⟨by rfl, by rfl⟩
  case rm250 =>
  simp only [Act.put, List.setIfInBounds_toArray, List.set_cons_zero, List.set_cons_succ]
  refine anyC_take 36 79 ?rv251 #[true, true, true, true, true, true, true, true, true, true, true, true, true, true, true, true, true, true, true, true, true, true, true, true, true, true, true, true, true, true, true, true, true, true, true, true, true, false, false, false, false] rfl rfl rfl (by kernel_rfl) (by kernel_rfl) (by kernel_rfl) (fun _ _ _ h => h) ?ry251 (⟨(B59.out.go hby3).c0, (B59.out.go hby3).c1, (B59.out.go hby3).c2, (B60.out.go hby3).c0, (B60.out.go hby3).c1, (B60.out.go hby3).c2, (B61.out.go hby3).c0, (B61.out.go hby3).c1, (B61.out.go hby3).c2, cell_to sx11 hby3, cell_to sx20 hby3, cell_to sx21 hby3, cell_to sx30 hby3⟩) ?rm251
  case ry251 => first | exact Or.inl ⟨by rfl, by intro w' hw'; (try dsimp only at hw'); go_simp; first | done | rfl⟩ | exact Or.inr ⟨by rfl, rfl⟩ | exact Or.inr ⟨by rfl, by rfl⟩
  case rm251 =>
  simp only [Act.put, List.setIfInBounds_toArray, List.set_cons_zero, List.set_cons_succ]
  refine anyC_put 37 80 ?rv252 #[true, true, true, true, true, true, true, true, true, true, true, true, true, true, true, true, true, true, true, true, true, true, true, true, true, true, true, true, true, true, true, true, true, true, true, true, true, true, false, false, false] rfl rfl rfl (by kernel_rfl) (by kernel_rfl) (by kernel_rfl) (fun _ _ _ h => h) ?ry252 (⟨(B59.out.go hby3).c0, (B59.out.go hby3).c1, (B59.out.go hby3).c2, (B60.out.go hby3).c0, (B60.out.go hby3).c1, (B60.out.go hby3).c2, (B61.out.go hby3).c0, (B61.out.go hby3).c1, (B61.out.go hby3).c2, cell_to sx11 hby3, cell_to sx20 hby3, cell_to sx21 hby3, cell_to sx30 hby3⟩) ?rm252
  case ry252 => first | exact Or.inl ⟨by rfl, by intro w'; go_simp; first | done | rfl⟩ | exact Or.inr ⟨by rfl, rfl⟩ | exact Or.inr ⟨by rfl, by rfl⟩
  case rm252 =>
  simp only [Act.put, List.setIfInBounds_toArray, List.set_cons_zero, List.set_cons_succ]
  refine anyC_take 38 81 ?rv253 #[true, true, true, true, true, true, true, true, true, true, true, true, true, true, true, true, true, true, true, true, true, true, true, true, true, true, true, true, true, true, true, true, true, true, true, true, true, true, true, false, false] rfl rfl rfl (by kernel_rfl) (by kernel_rfl) (by kernel_rfl) (fun _ _ _ h => h) ?ry253 (⟨(B59.out.go hby3).c0, (B59.out.go hby3).c1, (B59.out.go hby3).c2, (B60.out.go hby3).c0, (B60.out.go hby3).c1, (B60.out.go hby3).c2, (B61.out.go hby3).c0, (B61.out.go hby3).c1, (B61.out.go hby3).c2, cell_to sx11 hby3, cell_to sx20 hby3, cell_to sx21 hby3, cell_to sx30 hby3⟩) ?rm253
  case ry253 => first | exact Or.inl ⟨by rfl, by intro w' hw'; (try dsimp only at hw'); go_simp; first | done | rfl⟩ | exact Or.inr ⟨by rfl, rfl⟩ | exact Or.inr ⟨by rfl, by rfl⟩
  case rm253 =>
  simp only [Act.put, List.setIfInBounds_toArray, List.set_cons_zero, List.set_cons_succ]
  refine anyC_put 39 82 ?rv254 #[true, true, true, true, true, true, true, true, true, true, true, true, true, true, true, true, true, true, true, true, true, true, true, true, true, true, true, true, true, true, true, true, true, true, true, true, true, true, true, true, false] rfl rfl rfl (by kernel_rfl) (by kernel_rfl) (by kernel_rfl) (fun _ _ _ h => h) ?ry254 (⟨(B59.out.go hby3).c0, (B59.out.go hby3).c1, (B59.out.go hby3).c2, (B60.out.go hby3).c0, (B60.out.go hby3).c1, (B60.out.go hby3).c2, (B61.out.go hby3).c0, (B61.out.go hby3).c1, (B61.out.go hby3).c2, cell_to sx11 hby3, cell_to sx20 hby3, cell_to sx21 hby3, cell_to sx30 hby3⟩) ?rm254
  case ry254 => first | exact Or.inl ⟨by rfl, by intro w'; go_simp; first | done | rfl⟩ | exact Or.inr ⟨by rfl, rfl⟩ | exact Or.inr ⟨by rfl, by rfl⟩
  case rm254 =>
  simp only [Act.put, List.setIfInBounds_toArray, List.set_cons_zero, List.set_cons_succ]
  refine anyC_put 40 83 ?rv255 #[true, true, true, true, true, true, true, true, true, true, true, true, true, true, true, true, true, true, true, true, true, true, true, true, true, true, true, true, true, true, true, true, true, true, true, true, true, true, true, true, true] rfl rfl rfl (by kernel_rfl) (by kernel_rfl) (by kernel_rfl) (fun _ _ _ h => h) ?ry255 (⟨(B59.out.go hby3).c0, (B59.out.go hby3).c1, (B59.out.go hby3).c2, (B60.out.go hby3).c0, (B60.out.go hby3).c1, (B60.out.go hby3).c2, (B61.out.go hby3).c0, (B61.out.go hby3).c1, (B61.out.go hby3).c2, cell_to sx11 hby3, cell_to sx20 hby3, cell_to sx21 hby3, cell_to sx30 hby3⟩) ?rm255
  case ry255 => first | exact Or.inl ⟨by rfl, by intro w'; go_simp; first | done | rfl⟩
  case rm255 =>
  simp only [Act.put, List.setIfInBounds_toArray, List.set_cons_zero, List.set_cons_succ]
  refine anyC_done (by kernel_rfl) ?_
  have hB := hby3
  have z66 : wo57.heap.size ≤ y3.heap.size := hB.size
  have B67 : Hid (Abx y3 (w.heap.size) (.bool false) (.slice (some ⟨b1, o1, none⟩) sz1.length sc1) (.slice da1 dz1.length dc1)) := B59.out.go hB
  have B68 : Hid (Abx y3 (w.heap.size + 1) (.bool false) (.slice (some ⟨b2, o2, none⟩) sz2.length sc2) (.slice da2 dz2.length dc2)) := B60.out.go hB
  have B69 : Hid (Abx y3 (w.heap.size + 1 + 1) (.bool false) (.slice (some ⟨b3, o3, none⟩) sz3.length sc3) (.slice da3 dz3.length dc3)) := B61.out.go hB
  have hb70 : Hid (Below w.heap.size w y3) := hb65.out.trans (hB.mono hb65.out.size)
  clear hB hb65 B59 B60 B61
  go_wp2_with fail
  go_ret
  exact ⟨rfl, hb70.out⟩
set_option maxRecDepth 100000 in
set_option maxHeartbeats 4000000 in
theorem chain_ok (HNi : CNi) (f g : Int) (hf : In64 f) (hg : In64 g) (c1 : Bool) (sa1 : Option Addr) (sc1 : Nat) (sz1 : List Int) (da1 : Option Addr) (dc1 : Nat) (dz1 : List Int) (c2 : Bool) (sa2 : Option Addr) (sc2 : Nat) (sz2 : List Int) (da2 : Option Addr) (dc2 : Nat) (dz2 : List Int) (c3 : Bool) (sa3 : Option Addr) (sc3 : Nat) (sz3 : List Int) (da3 : Option Addr) (dc3 : Nat) (dz3 : List Int) (w : World) (w8 : IsArrD w sa1 sz1 sc1 da1 dz1 dc1) (w9 : IsArrD w sa2 sz2 sc2 da2 dz2 dc2) (w10 : IsArrD w sa3 sz3 sc3 da3 dz3 dc3) (GS : Hid (Srg f g)) (G1 : Hid (GrdP 16 c1 sz1 dz1)) (G2 : Hid (GrdP 16 c2 sz2 dz2)) (G3 : Hid (GrdP 16 c3 sz3 dz3)) (E1 : Hid (nth sz1 1 = nth sz2 0)) (E2 : Hid (nth sz2 1 = nth sz3 0)) :
    Calls Try.prog 3 #[.int .i64 f, .int .i64 g, .agg #[.bool c1, .slice sa1 sz1.length sc1, .slice da1 dz1.length dc1], .agg #[.bool c2, .slice sa2 sz2.length sc2, .slice da2 dz2.length dc2], .agg #[.bool c3, .slice sa3 sz3.length sc3, .slice da3 dz3.length dc3]] w fun e w' => e = .returned (.bool true) ∧ Below w.heap.size w w' := by
  obtain ⟨b1, o1, rfl, hq1, hc1⟩ := w8.2.2.1.1.at (q := 0) (by rw [G1.out.2.1]; decide)
  have hcf1 := G1.out.1
  subst hcf1
  obtain ⟨m1, hm1⟩ : ∃ m, m = nth sz1 0 := ⟨_, rfl⟩
  obtain ⟨n1, hn1⟩ : ∃ n, n = nth sz1 1 := ⟨_, rfl⟩
  have HC1 : Hid (b1 < w.heap.size ∧ w.cell? ⟨b1, o1, none⟩ = some (.int .i64 m1) ∧ w.cell? ⟨b1, o1 + 1, none⟩ = some (.int .i64 n1)) := ⟨hq1, by have := hc1 0 (by rw [G1.out.2.1]; decide); rw [Nat.add_zero, ← hm1] at this; exact this, by rw [hn1]; exact hc1 1 (by rw [G1.out.2.1]; decide)⟩
  have HM1 : Hid (m1 = nth sz1 0 ∧ n1 = nth sz1 1) := ⟨hm1, hn1⟩
  have hz1 : sz1.length = 2 := G1.out.2.1
  have HZ1 : Hid (sz1.length = 2) := hz1
  have lz1 : 1 < sz1.length := by omega
  have ly1 : 0 < sz1.length := by omega
  have lw1 : (1 : Int) < (sz1.length : Int) := by omega
  have lv1 : (0 : Int) < (sz1.length : Int) := by omega
  clear hq1 hc1 hm1 hn1 hz1
  obtain ⟨b2, o2, rfl, hq2, hc2⟩ := w9.2.2.1.1.at (q := 0) (by rw [G2.out.2.1]; decide)
  have hcf2 := G2.out.1
  subst hcf2
  obtain ⟨m2, hm2⟩ : ∃ m, m = nth sz2 0 := ⟨_, rfl⟩
  obtain ⟨n2, hn2⟩ : ∃ n, n = nth sz2 1 := ⟨_, rfl⟩
  have HC2 : Hid (b2 < w.heap.size ∧ w.cell? ⟨b2, o2, none⟩ = some (.int .i64 m2) ∧ w.cell? ⟨b2, o2 + 1, none⟩ = some (.int .i64 n2)) := ⟨hq2, by have := hc2 0 (by rw [G2.out.2.1]; decide); rw [Nat.add_zero, ← hm2] at this; exact this, by rw [hn2]; exact hc2 1 (by rw [G2.out.2.1]; decide)⟩
  have HM2 : Hid (m2 = nth sz2 0 ∧ n2 = nth sz2 1) := ⟨hm2, hn2⟩
  have hz2 : sz2.length = 2 := G2.out.2.1
  have HZ2 : Hid (sz2.length = 2) := hz2
  have lz2 : 1 < sz2.length := by omega
  have ly2 : 0 < sz2.length := by omega
  have lw2 : (1 : Int) < (sz2.length : Int) := by omega
  have lv2 : (0 : Int) < (sz2.length : Int) := by omega
  clear hq2 hc2 hm2 hn2 hz2
  obtain ⟨b3, o3, rfl, hq3, hc3⟩ := w10.2.2.1.1.at (q := 0) (by rw [G3.out.2.1]; decide)
  have hcf3 := G3.out.1
  subst hcf3
  obtain ⟨m3, hm3⟩ : ∃ m, m = nth sz3 0 := ⟨_, rfl⟩
  obtain ⟨n3, hn3⟩ : ∃ n, n = nth sz3 1 := ⟨_, rfl⟩
  have HC3 : Hid (b3 < w.heap.size ∧ w.cell? ⟨b3, o3, none⟩ = some (.int .i64 m3) ∧ w.cell? ⟨b3, o3 + 1, none⟩ = some (.int .i64 n3)) := ⟨hq3, by have := hc3 0 (by rw [G3.out.2.1]; decide); rw [Nat.add_zero, ← hm3] at this; exact this, by rw [hn3]; exact hc3 1 (by rw [G3.out.2.1]; decide)⟩
  have HM3 : Hid (m3 = nth sz3 0 ∧ n3 = nth sz3 1) := ⟨hm3, hn3⟩
  have hz3 : sz3.length = 2 := G3.out.2.1
  have HZ3 : Hid (sz3.length = 2) := hz3
  have lz3 : 1 < sz3.length := by omega
  have ly3 : 0 < sz3.length := by omega
  have lw3 : (1 : Int) < (sz3.length : Int) := by omega
  have lv3 : (0 : Int) < (sz3.length : Int) := by omega
  clear hq3 hc3 hm3 hn3 hz3
  have t1 : (n1 != m2) = false := by rw [HM1.out.2, HM2.out.1, E1.out]; simp
  have t2 : (n2 != m3) = false := by rw [HM2.out.2, HM3.out.1, E2.out]; simp
  obtain ⟨S1, D1, S2, D2, S3, D3, R1, R2, R3, R4, TT, L1, L2, L3⟩ := chain13 GS.out G1.out G2.out G3.out E1.out E2.out w8.2.2.2.2.2 w9.2.2.2.2.2 w10.2.2.2.2.2
  have HR1 : Hid (_) := R1
  have HR2 : Hid (_) := R2
  have HR3 : Hid (_) := R3
  have HR4 : Hid (_) := R4
  have HTT : Hid (_) := TT
  clear R1 R2 R3 R4 TT
  obtain ⟨x11, x12, x3, x4, s64, T⟩ := w8
  have HI1 : Hid (IsC w.heap.size w (some ⟨b1, o1, none⟩) sz1 sc1 ∧ IsC w.heap.size w da1 dz1 dc1 ∧ (∀ j, In64 (nth sz1 j)) ∧ ∀ j, In64 (nth dz1 j)) := ⟨x3, x4, s64, T⟩
  clear x3 x4 T s64
  obtain ⟨x21, x22, x3, x4, s64, T⟩ := w9
  have HI2 : Hid (IsC w.heap.size w (some ⟨b2, o2, none⟩) sz2 sc2 ∧ IsC w.heap.size w da2 dz2 dc2 ∧ (∀ j, In64 (nth sz2 j)) ∧ ∀ j, In64 (nth dz2 j)) := ⟨x3, x4, s64, T⟩
  clear x3 x4 T s64
  obtain ⟨x31, x32, x3, x4, s64, T⟩ := w10
  have HI3 : Hid (IsC w.heap.size w (some ⟨b3, o3, none⟩) sz3 sc3 ∧ IsC w.heap.size w da3 dz3 dc3 ∧ (∀ j, In64 (nth sz3 j)) ∧ ∀ j, In64 (nth dz3 j)) := ⟨x3, x4, s64, T⟩
  clear x3 x4 T s64
  have n1 := Abx.new w (.bool false) (.slice (some ⟨b1, o1, none⟩) sz1.length sc1) (.slice da1 dz1.length dc1)
  have n2 := Abx.new (w.alloc (.cells #[.bool false, .slice (some ⟨b1, o1, none⟩) sz1.length sc1, .slice da1 dz1.length dc1] 25)) (.bool false) (.slice (some ⟨b2, o2, none⟩) sz2.length sc2) (.slice da2 dz2.length dc2)
  simp only [World.size_alloc] at n2
  have n3 := Abx.new ((w.alloc (.cells #[.bool false, .slice (some ⟨b1, o1, none⟩) sz1.length sc1, .slice da1 dz1.length dc1] 25)).alloc (.cells #[.bool false, .slice (some ⟨b2, o2, none⟩) sz2.length sc2, .slice da2 dz2.length dc2] 25)) (.bool false) (.slice (some ⟨b3, o3, none⟩) sz3.length sc3) (.slice da3 dz3.length dc3)
  simp only [World.size_alloc] at n3
  have n4 := lit_mid (((w.alloc (.cells #[.bool false, .slice (some ⟨b1, o1, none⟩) sz1.length sc1, .slice da1 dz1.length dc1] 25)).alloc (.cells #[.bool false, .slice (some ⟨b2, o2, none⟩) sz2.length sc2, .slice da2 dz2.length dc2] 25)).alloc (.cells #[.bool false, .slice (some ⟨b3, o3, none⟩) sz3.length sc3, .slice da3 dz3.length dc3] 25)) 3 [1, 2, 3] 3 rfl
  simp only [World.size_alloc, List.map_cons, List.map_nil] at n4
  go_enter Try.func3, Try.ntmps3
  go_wp2_with fail
  obtain ⟨wo5, hwo5⟩ : ∃ wo5, wo5 = ((((w.alloc (.cells #[.bool false, .slice (some ⟨b1, o1, none⟩) sz1.length sc1, .slice da1 dz1.length dc1] 25)).alloc (.cells #[.bool false, .slice (some ⟨b2, o2, none⟩) sz2.length sc2, .slice da2 dz2.length dc2] 25)).alloc (.cells #[.bool false, .slice (some ⟨b3, o3, none⟩) sz3.length sc3, .slice da3 dz3.length dc3] 25)).alloc (.cells #[.int .i64 1, .int .i64 2, .int .i64 3] 3)) := ⟨_, rfl⟩
  rw [← hwo5]
  have z6 : w.heap.size + 1 + 1 + 1 + 1 ≤ wo5.heap.size := by rw [hwo5]; simp only [World.size_alloc]; omega
  have B7 : Hid (Abx wo5 (w.heap.size) (.bool false) (.slice (some ⟨b1, o1, none⟩) sz1.length sc1) (.slice da1 dz1.length dc1)) := by rw [hwo5]; exact (((n1.al (.cells #[.bool false, .slice (some ⟨b2, o2, none⟩) sz2.length sc2, .slice da2 dz2.length dc2] 25)).al (.cells #[.bool false, .slice (some ⟨b3, o3, none⟩) sz3.length sc3, .slice da3 dz3.length dc3] 25)).al (.cells #[.int .i64 1, .int .i64 2, .int .i64 3] 3))
  have B8 : Hid (Abx wo5 (w.heap.size + 1) (.bool false) (.slice (some ⟨b2, o2, none⟩) sz2.length sc2) (.slice da2 dz2.length dc2)) := by rw [hwo5]; exact ((n2.al (.cells #[.bool false, .slice (some ⟨b3, o3, none⟩) sz3.length sc3, .slice da3 dz3.length dc3] 25)).al (.cells #[.int .i64 1, .int .i64 2, .int .i64 3] 3))
  have B9 : Hid (Abx wo5 (w.heap.size + 1 + 1) (.bool false) (.slice (some ⟨b3, o3, none⟩) sz3.length sc3) (.slice da3 dz3.length dc3)) := by rw [hwo5]; exact (n3.al (.cells #[.int .i64 1, .int .i64 2, .int .i64 3] 3))
  have L10 : Hid (MidC (w.heap.size + 1 + 1 + 1) (w.heap.size + 1 + 1 + 1 + 1) wo5 (some ⟨w.heap.size + 1 + 1 + 1, 0, none⟩) ([1, 2, 3]) (3)) := by rw [hwo5]; exact n4
  have hb11 : Hid (Below w.heap.size w wo5) := by rw [hwo5]; exact (((((Below.refl w.heap.size w).alloc (by omega) (.cells #[.bool false, .slice (some ⟨b1, o1, none⟩) sz1.length sc1, .slice da1 dz1.length dc1] 25)).alloc (by simp only [World.size_alloc]; omega) (.cells #[.bool false, .slice (some ⟨b2, o2, none⟩) sz2.length sc2, .slice da2 dz2.length dc2] 25)).alloc (by simp only [World.size_alloc]; omega) (.cells #[.bool false, .slice (some ⟨b3, o3, none⟩) sz3.length sc3, .slice da3 dz3.length dc3] 25)).alloc (by simp only [World.size_alloc]; omega) (.cells #[.int .i64 1, .int .i64 2, .int .i64 3] 3))
  have zwo5 : w.heap.size ≤ wo5.heap.size := hb11.out.size
  clear hwo5 n1 n2 n3 n4
  refine (vec_c (some ⟨w.heap.size + 1 + 1 + 1, 0, none⟩) 3 [1, 2, 3] (by simp) _ (L10.out.is (by omega)).1).mono ?_
  rintro e v1 ⟨vap, vcp, gap, gcp, rfl, hVp, hGp, hB⟩
  have z12 : wo5.heap.size ≤ v1.heap.size := hB.size
  have B13 : Hid (Abx v1 (w.heap.size) (.bool false) (.slice (some ⟨b1, o1, none⟩) sz1.length sc1) (.slice da1 dz1.length dc1)) := B7.out.go hB
  have B14 : Hid (Abx v1 (w.heap.size + 1) (.bool false) (.slice (some ⟨b2, o2, none⟩) sz2.length sc2) (.slice da2 dz2.length dc2)) := B8.out.go hB
  have B15 : Hid (Abx v1 (w.heap.size + 1 + 1) (.bool false) (.slice (some ⟨b3, o3, none⟩) sz3.length sc3) (.slice da3 dz3.length dc3)) := B9.out.go hB
  have L16 : Hid (MidC (w.heap.size + 1 + 1 + 1) (w.heap.size + 1 + 1 + 1 + 1) v1 (some ⟨w.heap.size + 1 + 1 + 1, 0, none⟩) ([1, 2, 3]) (3)) := L10.out.go (by omega) hB
  have hb17 : Hid (Below w.heap.size w v1) := hb11.out.trans (hB.mono hb11.out.size)
  have L18 : Hid (MidC (wo5.heap.size) (v1.heap.size) v1 (vap) ([(3 : Int)]) (vcp)) := hVp.midc
  have L19 : Hid (MidC (wo5.heap.size) (v1.heap.size) v1 (gap) ([1, 2, 3]) (gcp)) := hGp.midc
  clear hB hb11 B7 B8 B9 L10 hVp hGp
  clear L16
  have n20 := lit_mid v1 3 [4, 5, 6] 3 rfl
  simp only [List.map_cons, List.map_nil] at n20
  go_wp2_with fail
  obtain ⟨wo21, hwo21⟩ : ∃ wo21, wo21 = (v1.alloc (.cells #[.int .i64 4, .int .i64 5, .int .i64 6] 3)) := ⟨_, rfl⟩
  rw [← hwo21]
  have z22 : v1.heap.size + 1 ≤ wo21.heap.size := by rw [hwo21]; simp only [World.size_alloc]; omega
  have B23 : Hid (Abx wo21 (w.heap.size) (.bool false) (.slice (some ⟨b1, o1, none⟩) sz1.length sc1) (.slice da1 dz1.length dc1)) := by rw [hwo21]; exact (B13.out.al (.cells #[.int .i64 4, .int .i64 5, .int .i64 6] 3))
  have B24 : Hid (Abx wo21 (w.heap.size + 1) (.bool false) (.slice (some ⟨b2, o2, none⟩) sz2.length sc2) (.slice da2 dz2.length dc2)) := by rw [hwo21]; exact (B14.out.al (.cells #[.int .i64 4, .int .i64 5, .int .i64 6] 3))
  have B25 : Hid (Abx wo21 (w.heap.size + 1 + 1) (.bool false) (.slice (some ⟨b3, o3, none⟩) sz3.length sc3) (.slice da3 dz3.length dc3)) := by rw [hwo21]; exact (B15.out.al (.cells #[.int .i64 4, .int .i64 5, .int .i64 6] 3))
  have L26 : Hid (MidC (wo5.heap.size) (v1.heap.size) wo21 (vap) ([(3 : Int)]) (vcp)) := by rw [hwo21]; exact (L18.out.al (by omega) (.cells #[.int .i64 4, .int .i64 5, .int .i64 6] 3))
  have L27 : Hid (MidC (wo5.heap.size) (v1.heap.size) wo21 (gap) ([1, 2, 3]) (gcp)) := by rw [hwo21]; exact (L19.out.al (by omega) (.cells #[.int .i64 4, .int .i64 5, .int .i64 6] 3))
  have L28 : Hid (MidC (v1.heap.size) (v1.heap.size + 1) wo21 (some ⟨v1.heap.size, 0, none⟩) ([4, 5, 6]) (3)) := by rw [hwo21]; exact n20
  have hb29 : Hid (Below w.heap.size w wo21) := by rw [hwo21]; exact (hb17.out.alloc (by omega) (.cells #[.int .i64 4, .int .i64 5, .int .i64 6] 3))
  have zwo21 : w.heap.size ≤ wo21.heap.size := hb29.out.size
  clear hwo21 n20 hb17 B13 B14 B15 L18 L19
  refine (vec_c (some ⟨v1.heap.size, 0, none⟩) 3 [4, 5, 6] (by simp) _ (L28.out.is (by omega)).1).mono ?_
  rintro e v2 ⟨vaq, vcq, gaq, gcq, rfl, hVq, hGq, hB⟩
  have z30 : wo21.heap.size ≤ v2.heap.size := hB.size
  have B31 : Hid (Abx v2 (w.heap.size) (.bool false) (.slice (some ⟨b1, o1, none⟩) sz1.length sc1) (.slice da1 dz1.length dc1)) := B23.out.go hB
  have B32 : Hid (Abx v2 (w.heap.size + 1) (.bool false) (.slice (some ⟨b2, o2, none⟩) sz2.length sc2) (.slice da2 dz2.length dc2)) := B24.out.go hB
  have B33 : Hid (Abx v2 (w.heap.size + 1 + 1) (.bool false) (.slice (some ⟨b3, o3, none⟩) sz3.length sc3) (.slice da3 dz3.length dc3)) := B25.out.go hB
  have L34 : Hid (MidC (wo5.heap.size) (v1.heap.size) v2 (vap) ([(3 : Int)]) (vcp)) := L26.out.go (by omega) hB
  have L35 : Hid (MidC (wo5.heap.size) (v1.heap.size) v2 (gap) ([1, 2, 3]) (gcp)) := L27.out.go (by omega) hB
  have L36 : Hid (MidC (v1.heap.size) (v1.heap.size + 1) v2 (some ⟨v1.heap.size, 0, none⟩) ([4, 5, 6]) (3)) := L28.out.go (by omega) hB
  have hb37 : Hid (Below w.heap.size w v2) := hb29.out.trans (hB.mono hb29.out.size)
  have L38 : Hid (MidC (wo21.heap.size) (v2.heap.size) v2 (vaq) ([(3 : Int)]) (vcq)) := hVq.midc
  have L39 : Hid (MidC (wo21.heap.size) (v2.heap.size) v2 (gaq) ([4, 5, 6]) (gcq)) := hGq.midc
  clear hB hb29 B23 B24 B25 L26 L27 L28 hVq hGq
  clear L36
  go_wp2_with fail
  refine (niw_ok 1 3 false vap vcp [(3 : Int)] 1 rfl gap gcp [1, 2, 3] 3 rfl false vaq vcq [(3 : Int)] 1 rfl gaq gcq [4, 5, 6] 3 rfl _ (by unfold In64; decide) (by unfold In64; decide) (by decide) (by decide) (L34.out.is (by omega)) (L35.out.is (by omega)).1 (lit12 (by decide)) (by decide) (by decide) (L38.out.is (by omega)) (L39.out.is (by omega)).1 (lit12 (by decide)) [] [32] HNi (by show inE 1 3 false [(3 : Int)] [1, 2, 3] false [(3 : Int)] [4, 5, 6] = 0 ∧ inS [(3 : Int)] [(3 : Int)] = [] ∧ inD 1 3 false [(3 : Int)] [1, 2, 3] false [(3 : Int)] [4, 5, 6] = [32]; decide +kernel)).mono ?_
  rintro e v3 ⟨f1, g1, f2, g2, rfl, hX0, hY0, hB⟩
  have z40 : v2.heap.size ≤ v3.heap.size := hB.size
  have B41 : Hid (Abx v3 (w.heap.size) (.bool false) (.slice (some ⟨b1, o1, none⟩) sz1.length sc1) (.slice da1 dz1.length dc1)) := B31.out.go hB
  have B42 : Hid (Abx v3 (w.heap.size + 1) (.bool false) (.slice (some ⟨b2, o2, none⟩) sz2.length sc2) (.slice da2 dz2.length dc2)) := B32.out.go hB
  have B43 : Hid (Abx v3 (w.heap.size + 1 + 1) (.bool false) (.slice (some ⟨b3, o3, none⟩) sz3.length sc3) (.slice da3 dz3.length dc3)) := B33.out.go hB
  have L44 : Hid (MidC (wo5.heap.size) (v1.heap.size) v3 (vap) ([(3 : Int)]) (vcp)) := L34.out.go (by omega) hB
  have L45 : Hid (MidC (wo5.heap.size) (v1.heap.size) v3 (gap) ([1, 2, 3]) (gcp)) := L35.out.go (by omega) hB
  have L46 : Hid (MidC (wo21.heap.size) (v2.heap.size) v3 (vaq) ([(3 : Int)]) (vcq)) := L38.out.go (by omega) hB
  have L47 : Hid (MidC (wo21.heap.size) (v2.heap.size) v3 (gaq) ([4, 5, 6]) (gcq)) := L39.out.go (by omega) hB
  have hb48 : Hid (Below w.heap.size w v3) := hb37.out.trans (hB.mono hb37.out.size)
  have L49 : Hid (MidC (v2.heap.size) (v3.heap.size) v3 (f1) ([]) (g1)) := hX0.midc
  have L50 : Hid (MidC (v2.heap.size) (v3.heap.size) v3 (f2) ([32]) (g2)) := hY0.midc
  clear hB hb37 B31 B32 B33 L34 L35 L38 L39 hX0 hY0
  clear L44 L45 L46 L47
  obtain ⟨b51, ob51, rfl, _, _, _, _⟩ := L50.out.at (i := 0) (by decide)
  have n52 := Abx.new v3 (.bool false) (.slice f1 0 g1) (.slice (some ⟨b51, ob51, none⟩) 1 g2)
  have l53 := (n52).c0
  have l54 := (n52).c1
  have l55 := (n52).c2
  obtain ⟨_, _, l56e, _, _, l56, _⟩ := ((L50.out.al (by omega) (.cells #[.bool false, .slice f1 0 g1, .slice (some ⟨b51, ob51, none⟩) 1 g2] 25))).at (i := 0) (by decide)
  cases l56e
  try simp only [Nat.add_zero] at l56
  go_wp2_with fail
  obtain ⟨wo57, hwo57⟩ : ∃ wo57, wo57 = (v3.alloc (.cells #[.bool false, .slice f1 0 g1, .slice (some ⟨b51, ob51, none⟩) 1 g2] 25)) := ⟨_, rfl⟩
  rw [← hwo57]
  have z58 : v3.heap.size + 1 ≤ wo57.heap.size := by rw [hwo57]; simp only [World.size_alloc]; omega
  have B59 : Hid (Abx wo57 (w.heap.size) (.bool false) (.slice (some ⟨b1, o1, none⟩) sz1.length sc1) (.slice da1 dz1.length dc1)) := by rw [hwo57]; exact (B41.out.al (.cells #[.bool false, .slice f1 0 g1, .slice (some ⟨b51, ob51, none⟩) 1 g2] 25))
  have B60 : Hid (Abx wo57 (w.heap.size + 1) (.bool false) (.slice (some ⟨b2, o2, none⟩) sz2.length sc2) (.slice da2 dz2.length dc2)) := by rw [hwo57]; exact (B42.out.al (.cells #[.bool false, .slice f1 0 g1, .slice (some ⟨b51, ob51, none⟩) 1 g2] 25))
  have B61 : Hid (Abx wo57 (w.heap.size + 1 + 1) (.bool false) (.slice (some ⟨b3, o3, none⟩) sz3.length sc3) (.slice da3 dz3.length dc3)) := by rw [hwo57]; exact (B43.out.al (.cells #[.bool false, .slice f1 0 g1, .slice (some ⟨b51, ob51, none⟩) 1 g2] 25))
  have B62 : Hid (Abx wo57 (v3.heap.size) (.bool false) (.slice f1 0 g1) (.slice (some ⟨b51, ob51, none⟩) 1 g2)) := by rw [hwo57]; exact n52
  have L63 : Hid (MidC (v2.heap.size) (v3.heap.size) wo57 (f1) ([]) (g1)) := by rw [hwo57]; exact (L49.out.al (by omega) (.cells #[.bool false, .slice f1 0 g1, .slice (some ⟨b51, ob51, none⟩) 1 g2] 25))
  have L64 : Hid (MidC (v2.heap.size) (v3.heap.size) wo57 (some ⟨b51, ob51, none⟩) ([32]) (g2)) := by rw [hwo57]; exact (L50.out.al (by omega) (.cells #[.bool false, .slice f1 0 g1, .slice (some ⟨b51, ob51, none⟩) 1 g2] 25))
  have hb65 : Hid (Below w.heap.size w wo57) := by rw [hwo57]; exact (hb48.out.alloc (by omega) (.cells #[.bool false, .slice f1 0 g1, .slice (some ⟨b51, ob51, none⟩) 1 g2] 25))
  have zwo57 : w.heap.size ≤ wo57.heap.size := hb65.out.size
  clear hwo57 n52 l53 l54 l55 l56 hb48 B41 B42 B43 L49 L50
  clear L63 L64 B62
  have sx11 : wo57.cell? ⟨b1, o1 + 1, none⟩ = some (.int .i64 n1) := (hb65.out.cell (p := ⟨b1, o1 + 1, none⟩) HC1.out.1).trans HC1.out.2.2
  have sx20 : wo57.cell? ⟨b2, o2, none⟩ = some (.int .i64 m2) := (hb65.out.cell (p := ⟨b2, o2, none⟩) HC2.out.1).trans HC2.out.2.1
  have sx21 : wo57.cell? ⟨b2, o2 + 1, none⟩ = some (.int .i64 n2) := (hb65.out.cell (p := ⟨b2, o2 + 1, none⟩) HC2.out.1).trans HC2.out.2.2
  have sx30 : wo57.cell? ⟨b3, o3, none⟩ = some (.int .i64 m3) := (hb65.out.cell (p := ⟨b3, o3, none⟩) HC3.out.1).trans HC3.out.2.1
  have hb0 : Below wo57.heap.size wo57 wo57.drew := (Below.refl _ wo57).drew
  refine anyC_begin (fun w' => w'.cell? ⟨w.heap.size, 0, none⟩ = some (.bool false) ∧ w'.cell? ⟨w.heap.size, 1, none⟩ = some (.slice (some ⟨b1, o1, none⟩) sz1.length sc1) ∧ w'.cell? ⟨w.heap.size, 2, none⟩ = some (.slice da1 dz1.length dc1) ∧ w'.cell? ⟨w.heap.size + 1, 0, none⟩ = some (.bool false) ∧ w'.cell? ⟨w.heap.size + 1, 1, none⟩ = some (.slice (some ⟨b2, o2, none⟩) sz2.length sc2) ∧ w'.cell? ⟨w.heap.size + 1, 2, none⟩ = some (.slice da2 dz2.length dc2) ∧ w'.cell? ⟨w.heap.size + 1 + 1, 0, none⟩ = some (.bool false) ∧ w'.cell? ⟨w.heap.size + 1 + 1, 1, none⟩ = some (.slice (some ⟨b3, o3, none⟩) sz3.length sc3) ∧ w'.cell? ⟨w.heap.size + 1 + 1, 2, none⟩ = some (.slice da3 dz3.length dc3) ∧ w'.cell? ⟨b1, o1 + 1, none⟩ = some (.int .i64 n1) ∧ w'.cell? ⟨b2, o2, none⟩ = some (.int .i64 m2) ∧ w'.cell? ⟨b2, o2 + 1, none⟩ = some (.int .i64 n2) ∧ w'.cell? ⟨b3, o3, none⟩ = some (.int .i64 m3)) 41 #[false, false, false, false, false, false, false, false, false, false, false, false, false, false, false, false, false, false, false, false, false, false, false, false, false, false, false, false, false, false, false, false, false, false, false, false, false, false, false, false, false] (by kernel_rfl) rfl rfl ?_
  refine anyC_put 0 43 ?rv256 #[true, false, false, false, false, false, false, false, false, false, false, false, false, false, false, false, false, false, false, false, false, false, false, false, false, false, false, false, false, false, false, false, false, false, false, false, false, false, false, false, false] rfl rfl rfl (by kernel_rfl) (by kernel_rfl) (by kernel_rfl) (fun _ _ _ h => h) ?ry256 (⟨(B59.out.go hb0).c0, (B59.out.go hb0).c1, (B59.out.go hb0).c2, (B60.out.go hb0).c0, (B60.out.go hb0).c1, (B60.out.go hb0).c2, (B61.out.go hb0).c0, (B61.out.go hb0).c1, (B61.out.go hb0).c2, cell_to sx11 hb0, cell_to sx20 hb0, cell_to sx21 hb0, cell_to sx30 hb0⟩) ?rm256
  case ry256 => first | exact Or.inl ⟨by rfl, by intro w'; go_simp; first | done | rfl⟩
  case rm256 =>
  simp only [Act.put, List.setIfInBounds_toArray, List.set_cons_zero, List.set_cons_succ]
  refine anyC_put 1 44 ?rv257 #[true, true, false, false, false, false, false, false, false, false, false, false, false, false, false, false, false, false, false, false, false, false, false, false, false, false, false, false, false, false, false, false, false, false, false, false, false, false, false, false, false] rfl rfl rfl (by kernel_rfl) (by kernel_rfl) (by kernel_rfl) (fun _ _ _ h => h) ?ry257 (⟨(B59.out.go hb0).c0, (B59.out.go hb0).c1, (B59.out.go hb0).c2, (B60.out.go hb0).c0, (B60.out.go hb0).c1, (B60.out.go hb0).c2, (B61.out.go hb0).c0, (B61.out.go hb0).c1, (B61.out.go hb0).c2, cell_to sx11 hb0, cell_to sx20 hb0, cell_to sx21 hb0, cell_to sx30 hb0⟩) ?rm257
  case ry257 => first | exact Or.inl ⟨by rfl, by intro w'; go_simp; first | done | rfl⟩
  case rm257 =>
  simp only [Act.put, List.setIfInBounds_toArray, List.set_cons_zero, List.set_cons_succ]
  refine anyC_one 2 #[true, true, true, false, false, false, false, false, false, false, false, false, false, false, false, false, false, false, false, false, false, false, false, false, false, false, false, false, false, false, false, false, false, false, false, false, false, false, false, false, false] (by kernel_rfl) rfl rfl (fun K hK => ?_)
  go_simp
  go_wp2_with (go_at_call 9; refine (sring_any f g _).mono ?_; rintro e ysr ⟨rfl, hysr⟩; obtain rfl := hysr.symm; rw [srB_yes GS.out])
  refine hK.out _ _ (⟨(B59.out.go hb0).c0, (B59.out.go hb0).c1, (B59.out.go hb0).c2, (B60.out.go hb0).c0, (B60.out.go hb0).c1, (B60.out.go hb0).c2, (B61.out.go hb0).c0, (B61.out.go hb0).c1, (B61.out.go hb0).c2, cell_to sx11 hb0, cell_to sx20 hb0, cell_to sx21 hb0, cell_to sx30 hb0⟩) ?_
  clear hK K
  refine anyC_put 3 46 ?rv259 #[true, true, true, true, false, false, false, false, false, false, false, false, false, false, false, false, false, false, false, false, false, false, false, false, false, false, false, false, false, false, false, false, false, false, false, false, false, false, false, false, false] rfl rfl rfl (by kernel_rfl) (by kernel_rfl) (by kernel_rfl) (fun _ _ _ h => h) ?ry259 (⟨(B59.out.go hb0).c0, (B59.out.go hb0).c1, (B59.out.go hb0).c2, (B60.out.go hb0).c0, (B60.out.go hb0).c1, (B60.out.go hb0).c2, (B61.out.go hb0).c0, (B61.out.go hb0).c1, (B61.out.go hb0).c2, cell_to sx11 hb0, cell_to sx20 hb0, cell_to sx21 hb0, cell_to sx30 hb0⟩) ?rm259
  case ry259 => first | exact Or.inl ⟨by rfl, by intro w'; go_simp; first | done | rfl⟩
  case rm259 =>
  simp only [Act.put, List.setIfInBounds_toArray, List.set_cons_zero, List.set_cons_succ]
  refine anyC_put 4 47 ?rv260 #[true, true, true, true, true, false, false, false, false, false, false, false, false, false, false, false, false, false, false, false, false, false, false, false, false, false, false, false, false, false, false, false, false, false, false, false, false, false, false, false, false] rfl rfl rfl (by kernel_rfl) (by kernel_rfl) (by kernel_rfl) (fun _ _ _ h => h) ?ry260 (⟨(B59.out.go hb0).c0, (B59.out.go hb0).c1, (B59.out.go hb0).c2, (B60.out.go hb0).c0, (B60.out.go hb0).c1, (B60.out.go hb0).c2, (B61.out.go hb0).c0, (B61.out.go hb0).c1, (B61.out.go hb0).c2, cell_to sx11 hb0, cell_to sx20 hb0, cell_to sx21 hb0, cell_to sx30 hb0⟩) ?rm260
  case ry260 => first | exact Or.inl ⟨by rfl, by intro w'; go_simp; first | done | rfl⟩
  case rm260 =>
  simp only [Act.put, List.setIfInBounds_toArray, List.set_cons_zero, List.set_cons_succ]
  refine anyC_take 5 48 ?rv261 #[true, true, true, true, true, true, false, false, false, false, false, false, false, false, false, false, false, false, false, false, false, false, false, false, false, false, false, false, false, false, false, false, false, false, false, false, false, false, false, false, false] rfl rfl rfl (by kernel_rfl) (by kernel_rfl) (by kernel_rfl) (fun _ _ _ h => h) ?ry261 (⟨(B59.out.go hb0).c0, (B59.out.go hb0).c1, (B59.out.go hb0).c2, (B60.out.go hb0).c0, (B60.out.go hb0).c1, (B60.out.go hb0).c2, (B61.out.go hb0).c0, (B61.out.go hb0).c1, (B61.out.go hb0).c2, cell_to sx11 hb0, cell_to sx20 hb0, cell_to sx21 hb0, cell_to sx30 hb0⟩) ?rm261
  case ry261 => first | exact Or.inl ⟨by rfl, by intro w' hw'; (try dsimp only at hw'); go_simp; first | done | rfl⟩ | exact Or.inr ⟨by rfl, rfl⟩ | exact Or.inr ⟨by rfl, by rfl⟩
  case rm261 =>
  simp only [Act.put, List.setIfInBounds_toArray, List.set_cons_zero, List.set_cons_succ]
  refine anyC_one 6 #[true, true, true, true, true, true, true, false, false, false, false, false, false, false, false, false, false, false, false, false, false, false, false, false, false, false, false, false, false, false, false, false, false, false, false, false, false, false, false, false, false] (by kernel_rfl) rfl rfl (fun K hK => ?_)
  go_simp
  go_wp2_with (go_at_call 10; refine (grid_yes 16 (by decide) false (some ⟨b1, o1, none⟩) sc1 sz1 da1 dc1 dz1 _ ((HI1.out.1.1.below (hb65.out.trans (hb0.mono hb65.out.size))).mono (hb65.out.trans (hb0.mono hb65.out.size)).size) G1.out).mono ?_; rintro e y1 ⟨rfl, hBy1⟩)
  have hby1 : Below wo57.heap.size wo57 y1 := hb0.trans (hBy1.mono hb0.size)
  refine hK.out _ _ (⟨(B59.out.go hby1).c0, (B59.out.go hby1).c1, (B59.out.go hby1).c2, (B60.out.go hby1).c0, (B60.out.go hby1).c1, (B60.out.go hby1).c2, (B61.out.go hby1).c0, (B61.out.go hby1).c1, (B61.out.go hby1).c2, cell_to sx11 hby1, cell_to sx20 hby1, cell_to sx21 hby1, cell_to sx30 hby1⟩) ?_
  clear hK K
  refine anyC_put 7 50 ?rv263 #[true, true, true, true, true, true, true, true, false, false, false, false, false, false, false, false, false, false, false, false, false, false, false, false, false, false, false, false, false, false, false, false, false, false, false, false, false, false, false, false, false] rfl rfl rfl (by kernel_rfl) (by kernel_rfl) (by kernel_rfl) (fun _ _ _ h => h) ?ry263 (⟨(B59.out.go hby1).c0, (B59.out.go hby1).c1, (B59.out.go hby1).c2, (B60.out.go hby1).c0, (B60.out.go hby1).c1, (B60.out.go hby1).c2, (B61.out.go hby1).c0, (B61.out.go hby1).c1, (B61.out.go hby1).c2, cell_to sx11 hby1, cell_to sx20 hby1, cell_to sx21 hby1, cell_to sx30 hby1⟩) ?rm263
  case ry263 => first | exact Or.inl ⟨by rfl, by intro w'; go_simp; first | done | rfl⟩ | exact Or.inr ⟨by rfl, rfl⟩ | exact Or.inr ⟨by rfl, by rfl⟩
  case rm263 =>
  simp only [Act.put, List.setIfInBounds_toArray, List.set_cons_zero, List.set_cons_succ]
  refine anyC_put 8 51 ?rv264 #[true, true, true, true, true, true, true, true, true, false, false, false, false, false, false, false, false, false, false, false, false, false, false, false, false, false, false, false, false, false, false, false, false, false, false, false, false, false, false, false, false] rfl rfl rfl (by kernel_rfl) (by kernel_rfl) (by kernel_rfl) (fun _ _ _ h => h) ?ry264 (⟨(B59.out.go hby1).c0, (B59.out.go hby1).c1, (B59.out.go hby1).c2, (B60.out.go hby1).c0, (B60.out.go hby1).c1, (B60.out.go hby1).c2, (B61.out.go hby1).c0, (B61.out.go hby1).c1, (B61.out.go hby1).c2, cell_to sx11 hby1, cell_to sx20 hby1, cell_to sx21 hby1, cell_to sx30 hby1⟩) ?rm264
  case ry264 => first | exact Or.inl ⟨by rfl, by intro w'; go_simp; first | done | rfl⟩
  case rm264 =>
  simp only [Act.put, List.setIfInBounds_toArray, List.set_cons_zero, List.set_cons_succ]
  refine anyC_put 9 52 ?rv265 #[true, true, true, true, true, true, true, true, true, true, false, false, false, false, false, false, false, false, false, false, false, false, false, false, false, false, false, false, false, false, false, false, false, false, false, false, false, false, false, false, false] rfl rfl rfl (by kernel_rfl) (by kernel_rfl) (by kernel_rfl) (fun _ _ _ h => h) ?ry265 (⟨(B59.out.go hby1).c0, (B59.out.go hby1).c1, (B59.out.go hby1).c2, (B60.out.go hby1).c0, (B60.out.go hby1).c1, (B60.out.go hby1).c2, (B61.out.go hby1).c0, (B61.out.go hby1).c1, (B61.out.go hby1).c2, cell_to sx11 hby1, cell_to sx20 hby1, cell_to sx21 hby1, cell_to sx30 hby1⟩) ?rm265
  case ry265 => first | exact Or.inl ⟨by rfl, by intro w'; go_simp; first | done | rfl⟩
  case rm265 =>
  simp only [Act.put, List.setIfInBounds_toArray, List.set_cons_zero, List.set_cons_succ]
  refine anyC_take 10 53 ?rv266 #[true, true, true, true, true, true, true, true, true, true, true, false, false, false, false, false, false, false, false, false, false, false, false, false, false, false, false, false, false, false, false, false, false, false, false, false, false, false, false, false, false] rfl rfl rfl (by kernel_rfl) (by kernel_rfl) (by kernel_rfl) (fun _ _ _ h => h) ?ry266 (⟨(B59.out.go hby1).c0, (B59.out.go hby1).c1, (B59.out.go hby1).c2, (B60.out.go hby1).c0, (B60.out.go hby1).c1, (B60.out.go hby1).c2, (B61.out.go hby1).c0, (B61.out.go hby1).c1, (B61.out.go hby1).c2, cell_to sx11 hby1, cell_to sx20 hby1, cell_to sx21 hby1, cell_to sx30 hby1⟩) ?rm266
  case ry266 => first | exact Or.inl ⟨by rfl, by intro w' hw'; (try dsimp only at hw'); go_simp; first | done | rfl⟩ | exact Or.inr ⟨by rfl, rfl⟩ | exact Or.inr ⟨by rfl, by rfl⟩
  case rm266 =>
  simp only [Act.put, List.setIfInBounds_toArray, List.set_cons_zero, List.set_cons_succ]
  refine anyC_one 11 #[true, true, true, true, true, true, true, true, true, true, true, true, false, false, false, false, false, false, false, false, false, false, false, false, false, false, false, false, false, false, false, false, false, false, false, false, false, false, false, false, false] (by kernel_rfl) rfl rfl (fun K hK => ?_)
  go_simp
  go_wp2_with (go_at_call 10; refine (grid_yes 16 (by decide) false (some ⟨b2, o2, none⟩) sc2 sz2 da2 dc2 dz2 _ ((HI2.out.1.1.below (hb65.out.trans (hby1.mono hb65.out.size))).mono (hb65.out.trans (hby1.mono hb65.out.size)).size) G2.out).mono ?_; rintro e y2 ⟨rfl, hBy2⟩)
  have hby2 : Below wo57.heap.size wo57 y2 := hby1.trans (hBy2.mono hby1.size)
  refine hK.out _ _ (⟨(B59.out.go hby2).c0, (B59.out.go hby2).c1, (B59.out.go hby2).c2, (B60.out.go hby2).c0, (B60.out.go hby2).c1, (B60.out.go hby2).c2, (B61.out.go hby2).c0, (B61.out.go hby2).c1, (B61.out.go hby2).c2, cell_to sx11 hby2, cell_to sx20 hby2, cell_to sx21 hby2, cell_to sx30 hby2⟩) ?_
  clear hK K
  refine anyC_put 12 55 ?rv268 #[true, true, true, true, true, true, true, true, true, true, true, true, true, false, false, false, false, false, false, false, false, false, false, false, false, false, false, false, false, false, false, false, false, false, false, false, false, false, false, false, false] rfl rfl rfl (by kernel_rfl) (by kernel_rfl) (by kernel_rfl) (fun _ _ _ h => h) ?ry268 (⟨(B59.out.go hby2).c0, (B59.out.go hby2).c1, (B59.out.go hby2).c2, (B60.out.go hby2).c0, (B60.out.go hby2).c1, (B60.out.go hby2).c2, (B61.out.go hby2).c0, (B61.out.go hby2).c1, (B61.out.go hby2).c2, cell_to sx11 hby2, cell_to sx20 hby2, cell_to sx21 hby2, cell_to sx30 hby2⟩) ?rm268
  case ry268 => first | exact Or.inl ⟨by rfl, by intro w'; go_simp; first | done | rfl⟩ | exact Or.inr ⟨by rfl, rfl⟩ | exact Or.inr ⟨by rfl, by rfl⟩
  case rm268 =>
  simp only [Act.put, List.setIfInBounds_toArray, List.set_cons_zero, List.set_cons_succ]
  refine anyC_put 13 56 ?rv269 #[true, true, true, true, true, true, true, true, true, true, true, true, true, true, false, false, false, false, false, false, false, false, false, false, false, false, false, false, false, false, false, false, false, false, false, false, false, false, false, false, false] rfl rfl rfl (by kernel_rfl) (by kernel_rfl) (by kernel_rfl) (fun _ _ _ h => h) ?ry269 (⟨(B59.out.go hby2).c0, (B59.out.go hby2).c1, (B59.out.go hby2).c2, (B60.out.go hby2).c0, (B60.out.go hby2).c1, (B60.out.go hby2).c2, (B61.out.go hby2).c0, (B61.out.go hby2).c1, (B61.out.go hby2).c2, cell_to sx11 hby2, cell_to sx20 hby2, cell_to sx21 hby2, cell_to sx30 hby2⟩) ?rm269
  case ry269 => first | exact Or.inl ⟨by rfl, by intro w'; go_simp; first | done | rfl⟩
  case rm269 =>
  simp only [Act.put, List.setIfInBounds_toArray, List.set_cons_zero, List.set_cons_succ]
  refine anyC_put 14 57 ?rv270 #[true, true, true, true, true, true, true, true, true, true, true, true, true, true, true, false, false, false, false, false, false, false, false, false, false, false, false, false, false, false, false, false, false, false, false, false, false, false, false, false, false] rfl rfl rfl (by kernel_rfl) (by kernel_rfl) (by kernel_rfl) (fun _ _ _ h => h) ?ry270 (⟨(B59.out.go hby2).c0, (B59.out.go hby2).c1, (B59.out.go hby2).c2, (B60.out.go hby2).c0, (B60.out.go hby2).c1, (B60.out.go hby2).c2, (B61.out.go hby2).c0, (B61.out.go hby2).c1, (B61.out.go hby2).c2, cell_to sx11 hby2, cell_to sx20 hby2, cell_to sx21 hby2, cell_to sx30 hby2⟩) ?rm270
  case ry270 => first | exact Or.inl ⟨by rfl, by intro w'; go_simp; first | done | rfl⟩
  case rm270 =>
  simp only [Act.put, List.setIfInBounds_toArray, List.set_cons_zero, List.set_cons_succ]
  refine anyC_take 15 58 ?rv271 #[true, true, true, true, true, true, true, true, true, true, true, true, true, true, true, true, false, false, false, false, false, false, false, false, false, false, false, false, false, false, false, false, false, false, false, false, false, false, false, false, false] rfl rfl rfl (by kernel_rfl) (by kernel_rfl) (by kernel_rfl) (fun _ _ _ h => h) ?ry271 (⟨(B59.out.go hby2).c0, (B59.out.go hby2).c1, (B59.out.go hby2).c2, (B60.out.go hby2).c0, (B60.out.go hby2).c1, (B60.out.go hby2).c2, (B61.out.go hby2).c0, (B61.out.go hby2).c1, (B61.out.go hby2).c2, cell_to sx11 hby2, cell_to sx20 hby2, cell_to sx21 hby2, cell_to sx30 hby2⟩) ?rm271
  case ry271 => first | exact Or.inl ⟨by rfl, by intro w' hw'; (try dsimp only at hw'); go_simp; first | done | rfl⟩ | exact Or.inr ⟨by rfl, rfl⟩ | exact Or.inr ⟨by rfl, by rfl⟩
  case rm271 =>
  simp only [Act.put, List.setIfInBounds_toArray, List.set_cons_zero, List.set_cons_succ]
  refine anyC_one 16 #[true, true, true, true, true, true, true, true, true, true, true, true, true, true, true, true, true, false, false, false, false, false, false, false, false, false, false, false, false, false, false, false, false, false, false, false, false, false, false, false, false] (by kernel_rfl) rfl rfl (fun K hK => ?_)
  go_simp
  go_wp2_with (go_at_call 10; refine (grid_yes 16 (by decide) false (some ⟨b3, o3, none⟩) sc3 sz3 da3 dc3 dz3 _ ((HI3.out.1.1.below (hb65.out.trans (hby2.mono hb65.out.size))).mono (hb65.out.trans (hby2.mono hb65.out.size)).size) G3.out).mono ?_; rintro e y3 ⟨rfl, hBy3⟩)
  have hby3 : Below wo57.heap.size wo57 y3 := hby2.trans (hBy3.mono hby2.size)
  refine hK.out _ _ (⟨(B59.out.go hby3).c0, (B59.out.go hby3).c1, (B59.out.go hby3).c2, (B60.out.go hby3).c0, (B60.out.go hby3).c1, (B60.out.go hby3).c2, (B61.out.go hby3).c0, (B61.out.go hby3).c1, (B61.out.go hby3).c2, cell_to sx11 hby3, cell_to sx20 hby3, cell_to sx21 hby3, cell_to sx30 hby3⟩) ?_
  clear hK K
  refine anyC_put 17 60 ?rv273 #[true, true, true, true, true, true, true, true, true, true, true, true, true, true, true, true, true, true, false, false, false, false, false, false, false, false, false, false, false, false, false, false, false, false, false, false, false, false, false, false, false] rfl rfl rfl (by kernel_rfl) (by kernel_rfl) (by kernel_rfl) (fun _ _ _ h => h) ?ry273 (⟨(B59.out.go hby3).c0, (B59.out.go hby3).c1, (B59.out.go hby3).c2, (B60.out.go hby3).c0, (B60.out.go hby3).c1, (B60.out.go hby3).c2, (B61.out.go hby3).c0, (B61.out.go hby3).c1, (B61.out.go hby3).c2, cell_to sx11 hby3, cell_to sx20 hby3, cell_to sx21 hby3, cell_to sx30 hby3⟩) ?rm273
  case ry273 => first | exact Or.inl ⟨by rfl, by intro w'; go_simp; first | done | rfl⟩ | exact Or.inr ⟨by rfl, rfl⟩ | exact Or.inr ⟨by rfl, by rfl⟩
  case rm273 =>
  simp only [Act.put, List.setIfInBounds_toArray, List.set_cons_zero, List.set_cons_succ]
  refine anyC_put 18 61 ?rv274 #[true, true, true, true, true, true, true, true, true, true, true, true, true, true, true, true, true, true, true, false, false, false, false, false, false, false, false, false, false, false, false, false, false, false, false, false, false, false, false, false, false] rfl rfl rfl (by kernel_rfl) (by kernel_rfl) (by kernel_rfl) (fun _ _ _ h => h) ?ry274 (⟨(B59.out.go hby3).c0, (B59.out.go hby3).c1, (B59.out.go hby3).c2, (B60.out.go hby3).c0, (B60.out.go hby3).c1, (B60.out.go hby3).c2, (B61.out.go hby3).c0, (B61.out.go hby3).c1, (B61.out.go hby3).c2, cell_to sx11 hby3, cell_to sx20 hby3, cell_to sx21 hby3, cell_to sx30 hby3⟩) ?rm274
  case ry274 => first | exact Or.inl ⟨by rfl, by intro w'; go_simp; first | done | rfl⟩
  case rm274 =>
  simp only [Act.put, List.setIfInBounds_toArray, List.set_cons_zero, List.set_cons_succ]
  refine anyC_put 19 62 ?rv275 #[true, true, true, true, true, true, true, true, true, true, true, true, true, true, true, true, true, true, true, true, false, false, false, false, false, false, false, false, false, false, false, false, false, false, false, false, false, false, false, false, false] rfl rfl rfl (by kernel_rfl) (by kernel_rfl) (by kernel_rfl) (fun _ _ _ h => h) ?ry275 (⟨(B59.out.go hby3).c0, (B59.out.go hby3).c1, (B59.out.go hby3).c2, (B60.out.go hby3).c0, (B60.out.go hby3).c1, (B60.out.go hby3).c2, (B61.out.go hby3).c0, (B61.out.go hby3).c1, (B61.out.go hby3).c2, cell_to sx11 hby3, cell_to sx20 hby3, cell_to sx21 hby3, cell_to sx30 hby3⟩) ?rm275
  case ry275 => first | exact Or.inl ⟨by rfl, by intro w'; go_simp; first | done | rfl⟩
  case rm275 =>
  simp only [Act.put, List.setIfInBounds_toArray, List.set_cons_zero, List.set_cons_succ]
  refine anyC_put 20 63 ?rv276 #[true, true, true, true, true, true, true, true, true, true, true, true, true, true, true, true, true, true, true, true, true, false, false, false, false, false, false, false, false, false, false, false, false, false, false, false, false, false, false, false, false] rfl rfl rfl (by kernel_rfl) (by kernel_rfl) (by kernel_rfl) (fun _ _ _ h => h) ?ry276 (⟨(B59.out.go hby3).c0, (B59.out.go hby3).c1, (B59.out.go hby3).c2, (B60.out.go hby3).c0, (B60.out.go hby3).c1, (B60.out.go hby3).c2, (B61.out.go hby3).c0, (B61.out.go hby3).c1, (B61.out.go hby3).c2, cell_to sx11 hby3, cell_to sx20 hby3, cell_to sx21 hby3, cell_to sx30 hby3⟩) ?rm276
  case ry276 => first | exact Or.inl ⟨by rfl, by intro w'; go_simp; first | done | rfl⟩ | exact Or.inr ⟨by rfl, rfl⟩ | exact Or.inr ⟨by rfl, by rfl⟩
  case rm276 =>
  simp only [Act.put, List.setIfInBounds_toArray, List.set_cons_zero, List.set_cons_succ]
  refine anyC_take 21 64 ?rv277 #[true, true, true, true, true, true, true, true, true, true, true, true, true, true, true, true, true, true, true, true, true, true, false, false, false, false, false, false, false, false, false, false, false, false, false, false, false, false, false, false, false] rfl rfl rfl (by kernel_rfl) (by kernel_rfl) (by kernel_rfl) (fun _ _ _ h => h) ?ry277 (⟨(B59.out.go hby3).c0, (B59.out.go hby3).c1, (B59.out.go hby3).c2, (B60.out.go hby3).c0, (B60.out.go hby3).c1, (B60.out.go hby3).c2, (B61.out.go hby3).c0, (B61.out.go hby3).c1, (B61.out.go hby3).c2, cell_to sx11 hby3, cell_to sx20 hby3, cell_to sx21 hby3, cell_to sx30 hby3⟩) ?rm277
  case ry277 => first | exact Or.inl ⟨by rfl, by intro w' hw'; (try dsimp only at hw'); go_simp; first | done | rfl⟩ | exact Or.inr ⟨by rfl, rfl⟩ | exact Or.inr ⟨by rfl, by rfl⟩
  case rm277 =>
  simp only [Act.put, List.setIfInBounds_toArray, List.set_cons_zero, List.set_cons_succ]
  refine anyC_put 22 65 ?rv278 #[true, true, true, true, true, true, true, true, true, true, true, true, true, true, true, true, true, true, true, true, true, true, true, false, false, false, false, false, false, false, false, false, false, false, false, false, false, false, false, false, false] rfl rfl rfl (by kernel_rfl) (by kernel_rfl) (by kernel_rfl) (fun _ _ _ h => h) ?ry278 (⟨(B59.out.go hby3).c0, (B59.out.go hby3).c1, (B59.out.go hby3).c2, (B60.out.go hby3).c0, (B60.out.go hby3).c1, (B60.out.go hby3).c2, (B61.out.go hby3).c0, (B61.out.go hby3).c1, (B61.out.go hby3).c2, cell_to sx11 hby3, cell_to sx20 hby3, cell_to sx21 hby3, cell_to sx30 hby3⟩) ?rm278
  case ry278 => first | exact Or.inl ⟨by rfl, by intro w'; go_simp; first | done | rfl⟩ | exact Or.inr ⟨by rfl, rfl⟩ | exact Or.inr ⟨by rfl, by rfl⟩
  case rm278 =>
  simp only [Act.put, List.setIfInBounds_toArray, List.set_cons_zero, List.set_cons_succ]
  refine anyC_take 23 66 ?rv279 #[true, true, true, true, true, true, true, true, true, true, true, true, true, true, true, true, true, true, true, true, true, true, true, true, false, false, false, false, false, false, false, false, false, false, false, false, false, false, false, false, false] rfl rfl rfl (by kernel_rfl) (by kernel_rfl) (by kernel_rfl) (fun _ _ _ h => h) ?ry279 (⟨(B59.out.go hby3).c0, (B59.out.go hby3).c1, (B59.out.go hby3).c2, (B60.out.go hby3).c0, (B60.out.go hby3).c1, (B60.out.go hby3).c2, (B61.out.go hby3).c0, (B61.out.go hby3).c1, (B61.out.go hby3).c2, cell_to sx11 hby3, cell_to sx20 hby3, cell_to sx21 hby3, cell_to sx30 hby3⟩) ?rm279
  case ry279 => first | exact Or.inl ⟨by rfl, by intro w' hw'; (try dsimp only at hw'); go_simp; first | done | rfl⟩ | exact Or.inr ⟨by rfl, rfl⟩ | exact Or.inr ⟨by rfl, by rfl⟩
  case rm279 =>
  simp only [Act.put, List.setIfInBounds_toArray, List.set_cons_zero, List.set_cons_succ]
  refine anyC_put 24 67 ?rv280 #[true, true, true, true, true, true, true, true, true, true, true, true, true, true, true, true, true, true, true, true, true, true, true, true, true, false, false, false, false, false, false, false, false, false, false, false, false, false, false, false, false] rfl rfl rfl (by kernel_rfl) (by kernel_rfl) (by kernel_rfl) (fun _ _ _ h => h) ?ry280 (⟨(B59.out.go hby3).c0, (B59.out.go hby3).c1, (B59.out.go hby3).c2, (B60.out.go hby3).c0, (B60.out.go hby3).c1, (B60.out.go hby3).c2, (B61.out.go hby3).c0, (B61.out.go hby3).c1, (B61.out.go hby3).c2, cell_to sx11 hby3, cell_to sx20 hby3, cell_to sx21 hby3, cell_to sx30 hby3⟩) ?rm280
  case ry280 => first | exact Or.inl ⟨by rfl, by intro w'; go_simp; first | done | rfl⟩ | exact Or.inr ⟨by rfl, rfl⟩ | exact Or.inr ⟨by rfl, by rfl⟩
  case rm280 =>
  simp only [Act.put, List.setIfInBounds_toArray, List.set_cons_zero, List.set_cons_succ]
  refine anyC_take 25 68 ?rv281 #[true, true, true, true, true, true, true, true, true, true, true, true, true, true, true, true, true, true, true, true, true, true, true, true, true, true, false, false, false, false, false, false, false, false, false, false, false, false, false, false, false] rfl rfl rfl (by kernel_rfl) (by kernel_rfl) (by kernel_rfl) (fun _ _ _ h => h) ?ry281 (⟨(B59.out.go hby3).c0, (B59.out.go hby3).c1, (B59.out.go hby3).c2, (B60.out.go hby3).c0, (B60.out.go hby3).c1, (B60.out.go hby3).c2, (B61.out.go hby3).c0, (B61.out.go hby3).c1, (B61.out.go hby3).c2, cell_to sx11 hby3, cell_to sx20 hby3, cell_to sx21 hby3, cell_to sx30 hby3⟩) ?rm281
  case ry281 => first | exact Or.inl ⟨by rfl, by intro w' hw'; (try dsimp only at hw'); go_simp; first | done | rfl⟩ | exact Or.inr ⟨by rfl, rfl⟩ | exact Or.inr ⟨by rfl, by rfl⟩
  case rm281 =>
  simp only [Act.put, List.setIfInBounds_toArray, List.set_cons_zero, List.set_cons_succ]
  refine anyC_put 26 69 ?rv282 #[true, true, true, true, true, true, true, true, true, true, true, true, true, true, true, true, true, true, true, true, true, true, true, true, true, true, true, false, false, false, false, false, false, false, false, false, false, false, false, false, false] rfl rfl rfl (by kernel_rfl) (by kernel_rfl) (by kernel_rfl) (fun _ _ _ h => h) ?ry282 (⟨(B59.out.go hby3).c0, (B59.out.go hby3).c1, (B59.out.go hby3).c2, (B60.out.go hby3).c0, (B60.out.go hby3).c1, (B60.out.go hby3).c2, (B61.out.go hby3).c0, (B61.out.go hby3).c1, (B61.out.go hby3).c2, cell_to sx11 hby3, cell_to sx20 hby3, cell_to sx21 hby3, cell_to sx30 hby3⟩) ?rm282
  case ry282 => first | exact Or.inl ⟨by rfl, by intro w'; go_simp; first | done | rfl⟩ | exact Or.inr ⟨by rfl, rfl⟩ | exact Or.inr ⟨by rfl, by rfl⟩
  case rm282 =>
  simp only [Act.put, List.setIfInBounds_toArray, List.set_cons_zero, List.set_cons_succ]
  refine anyC_take 27 70 ?rv283 #[true, true, true, true, true, true, true, true, true, true, true, true, true, true, true, true, true, true, true, true, true, true, true, true, true, true, true, true, false, false, false, false, false, false, false, false, false, false, false, false, false] rfl rfl rfl (by kernel_rfl) (by kernel_rfl) (by kernel_rfl) (fun _ _ _ h => h) ?ry283 (⟨(B59.out.go hby3).c0, (B59.out.go hby3).c1, (B59.out.go hby3).c2, (B60.out.go hby3).c0, (B60.out.go hby3).c1, (B60.out.go hby3).c2, (B61.out.go hby3).c0, (B61.out.go hby3).c1, (B61.out.go hby3).c2, cell_to sx11 hby3, cell_to sx20 hby3, cell_to sx21 hby3, cell_to sx30 hby3⟩) ?rm283
  case ry283 => first | exact Or.inl ⟨by rfl, by intro w' hw'; (try dsimp only at hw'); go_simp; first | done | rfl⟩ | exact Or.inr ⟨by rfl, rfl⟩ | exact Or.inr ⟨by rfl, by rfl⟩
  case rm283 =>
  simp only [Act.put, List.setIfInBounds_toArray, List.set_cons_zero, List.set_cons_succ]
  refine anyC_put 28 71 ?rv284 #[true, true, true, true, true, true, true, true, true, true, true, true, true, true, true, true, true, true, true, true, true, true, true, true, true, true, true, true, true, false, false, false, false, false, false, false, false, false, false, false, false] rfl rfl rfl (by kernel_rfl) (by kernel_rfl) (by kernel_rfl) (fun _ _ _ h => h) ?ry284 (⟨(B59.out.go hby3).c0, (B59.out.go hby3).c1, (B59.out.go hby3).c2, (B60.out.go hby3).c0, (B60.out.go hby3).c1, (B60.out.go hby3).c2, (B61.out.go hby3).c0, (B61.out.go hby3).c1, (B61.out.go hby3).c2, cell_to sx11 hby3, cell_to sx20 hby3, cell_to sx21 hby3, cell_to sx30 hby3⟩) ?rm284
  case ry284 => first | exact Or.inl ⟨by rfl, by intro w'; go_simp; first | done | rfl⟩ | exact Or.inr ⟨by rfl, rfl⟩ | exact Or.inr ⟨by rfl, by rfl⟩
  case rm284 =>
  simp only [Act.put, List.setIfInBounds_toArray, List.set_cons_zero, List.set_cons_succ]
  refine anyC_put 29 72 ?rv285 #[true, true, true, true, true, true, true, true, true, true, true, true, true, true, true, true, true, true, true, true, true, true, true, true, true, true, true, true, true, true, false, false, false, false, false, false, false, false, false, false, false] rfl rfl rfl (by kernel_rfl) (by kernel_rfl) (by kernel_rfl) (fun _ _ _ h => h) ?ry285 (⟨(B59.out.go hby3).c0, (B59.out.go hby3).c1, (B59.out.go hby3).c2, (B60.out.go hby3).c0, (B60.out.go hby3).c1, (B60.out.go hby3).c2, (B61.out.go hby3).c0, (B61.out.go hby3).c1, (B61.out.go hby3).c2, cell_to sx11 hby3, cell_to sx20 hby3, cell_to sx21 hby3, cell_to sx30 hby3⟩) ?rm285
  case ry285 => first | exact Or.inl ⟨by rfl, by intro w'; go_simp; first | done | rfl⟩
  case rm285 =>
  simp only [Act.put, List.setIfInBounds_toArray, List.set_cons_zero, List.set_cons_succ]
  refine anyC_put 30 73 ?rv286 #[true, true, true, true, true, true, true, true, true, true, true, true, true, true, true, true, true, true, true, true, true, true, true, true, true, true, true, true, true, true, true, false, false, false, false, false, false, false, false, false, false] rfl rfl rfl (by kernel_rfl) (by kernel_rfl) (by kernel_rfl) (fun _ _ _ h => h) ?ry286 (⟨(B59.out.go hby3).c0, (B59.out.go hby3).c1, (B59.out.go hby3).c2, (B60.out.go hby3).c0, (B60.out.go hby3).c1, (B60.out.go hby3).c2, (B61.out.go hby3).c0, (B61.out.go hby3).c1, (B61.out.go hby3).c2, cell_to sx11 hby3, cell_to sx20 hby3, cell_to sx21 hby3, cell_to sx30 hby3⟩) ?rm286
  case ry286 => first | exact Or.inl ⟨by rfl, by intro w'; go_simp; first | done | rfl⟩
  case rm286 =>
  simp only [Act.put, List.setIfInBounds_toArray, List.set_cons_zero, List.set_cons_succ]
  refine anyC_put 31 74 ?rv287 #[true, true, true, true, true, true, true, true, true, true, true, true, true, true, true, true, true, true, true, true, true, true, true, true, true, true, true, true, true, true, true, true, false, false, false, false, false, false, false, false, false] rfl rfl rfl (by kernel_rfl) (by kernel_rfl) (by kernel_rfl) (fun _ _ _ h => h) ?ry287 (⟨(B59.out.go hby3).c0, (B59.out.go hby3).c1, (B59.out.go hby3).c2, (B60.out.go hby3).c0, (B60.out.go hby3).c1, (B60.out.go hby3).c2, (B61.out.go hby3).c0, (B61.out.go hby3).c1, (B61.out.go hby3).c2, cell_to sx11 hby3, cell_to sx20 hby3, cell_to sx21 hby3, cell_to sx30 hby3⟩) ?rm287
  case ry287 => first | exact Or.inl ⟨by rfl, by intro w'; go_simp; first | done | rfl⟩ | exact Or.inr ⟨by rfl, rfl⟩ | exact Or.inr ⟨by rfl, by rfl⟩
  case rm287 =>
  simp only [Act.put, List.setIfInBounds_toArray, List.set_cons_zero, List.set_cons_succ]
  refine anyC_take 32 75 ?rv288 #[true, true, true, true, true, true, true, true, true, true, true, true, true, true, true, true, true, true, true, true, true, true, true, true, true, true, true, true, true, true, true, true, true, false, false, false, false, false, false, false, false] rfl rfl rfl (by kernel_rfl) (by kernel_rfl) (by kernel_rfl) (fun _ _ _ h => h) ?ry288 (⟨(B59.out.go hby3).c0, (B59.out.go hby3).c1, (B59.out.go hby3).c2, (B60.out.go hby3).c0, (B60.out.go hby3).c1, (B60.out.go hby3).c2, (B61.out.go hby3).c0, (B61.out.go hby3).c1, (B61.out.go hby3).c2, cell_to sx11 hby3, cell_to sx20 hby3, cell_to sx21 hby3, cell_to sx30 hby3⟩) ?rm288
  case ry288 => first | exact Or.inl ⟨by rfl, by intro w' hw'; (try dsimp only at hw'); go_simp; first | done | rfl⟩ | exact Or.inr ⟨by rfl, rfl⟩ | exact Or.inr ⟨by rfl, by rfl⟩
  case rm288 =>
  simp only [Act.put, List.setIfInBounds_toArray, List.set_cons_zero, List.set_cons_succ]
  refine anyC_put 33 76 ?rv289 #[true, true, true, true, true, true, true, true, true, true, true, true, true, true, true, true, true, true, true, true, true, true, true, true, true, true, true, true, true, true, true, true, true, true, false, false, false, false, false, false, false] rfl rfl rfl (by kernel_rfl) (by kernel_rfl) (by kernel_rfl) (fun _ _ _ h => h) ?ry289 (⟨(B59.out.go hby3).c0, (B59.out.go hby3).c1, (B59.out.go hby3).c2, (B60.out.go hby3).c0, (B60.out.go hby3).c1, (B60.out.go hby3).c2, (B61.out.go hby3).c0, (B61.out.go hby3).c1, (B61.out.go hby3).c2, cell_to sx11 hby3, cell_to sx20 hby3, cell_to sx21 hby3, cell_to sx30 hby3⟩) ?rm289
  case ry289 => first | exact Or.inl ⟨by rfl, by intro w'; go_simp; first | done | rfl⟩ | exact Or.inr ⟨by rfl, rfl⟩ | exact Or.inr ⟨by rfl, by rfl⟩
  case rm289 =>
  simp only [Act.put, List.setIfInBounds_toArray, List.set_cons_zero, List.set_cons_succ]
  refine anyC_take 34 77 ?rv290 #[true, true, true, true, true, true, true, true, true, true, true, true, true, true, true, true, true, true, true, true, true, true, true, true, true, true, true, true, true, true, true, true, true, true, true, false, false, false, false, false, false] rfl rfl rfl (by kernel_rfl) (by kernel_rfl) (by kernel_rfl) (fun _ _ _ h => h) ?ry290 (⟨(B59.out.go hby3).c0, (B59.out.go hby3).c1, (B59.out.go hby3).c2, (B60.out.go hby3).c0, (B60.out.go hby3).c1, (B60.out.go hby3).c2, (B61.out.go hby3).c0, (B61.out.go hby3).c1, (B61.out.go hby3).c2, cell_to sx11 hby3, cell_to sx20 hby3, cell_to sx21 hby3, cell_to sx30 hby3⟩) ?rm290
  case ry290 => first | exact Or.inl ⟨by rfl, by intro w' hw'; (try dsimp only at hw'); go_simp; first | done | rfl⟩ | exact Or.inr ⟨by rfl, rfl⟩ | exact Or.inr ⟨by rfl, by rfl⟩
  case rm290 =>
  simp only [Act.put, List.setIfInBounds_toArray, List.set_cons_zero, List.set_cons_succ]
  refine anyC_put 35 78 ?rv291 #[true, true, true, true, true, true, true, true, true, true, true, true, true, true, true, true, true, true, true, true, true, true, true, true, true, true, true, true, true, true, true, true, true, true, true, true, false, false, false, false, false] rfl rfl rfl (by kernel_rfl) (by kernel_rfl) (by kernel_rfl) (fun _ _ _ h => h) ?ry291 (⟨(B59.out.go hby3).c0, (B59.out.go hby3).c1, (B59.out.go hby3).c2, (B60.out.go hby3).c0, (B60.out.go hby3).c1, (B60.out.go hby3).c2, (B61.out.go hby3).c0, (B61.out.go hby3).c1, (B61.out.go hby3).c2, cell_to sx11 hby3, cell_to sx20 hby3, cell_to sx21 hby3, cell_to sx30 hby3⟩) ?rm291
  case ry291 => first | exact Or.inl ⟨by rfl, by intro w'; go_simp; first | done | rfl⟩ | exact Or.inr ⟨by rfl, rfl⟩ | exact Or.inr ⟨by rfl, by rfl⟩
  case rm291 =>
  simp only [Act.put, List.setIfInBounds_toArray, List.set_cons_zero, List.set_cons_succ]
  refine anyC_take 36 79 ?rv292 #[true, true, true, true, true, true, true, true, true, true, true, true, true, true, true, true, true, true, true, true, true, true, true, true, true, true, true, true, true, true, true, true, true, true, true, true, true, false, false, false, false] rfl rfl rfl (by kernel_rfl) (by kernel_rfl) (by kernel_rfl) (fun _ _ _ h => h) ?ry292 (⟨(B59.out.go hby3).c0, (B59.out.go hby3).c1, (B59.out.go hby3).c2, (B60.out.go hby3).c0, (B60.out.go hby3).c1, (B60.out.go hby3).c2, (B61.out.go hby3).c0, (B61.out.go hby3).c1, (B61.out.go hby3).c2, cell_to sx11 hby3, cell_to sx20 hby3, cell_to sx21 hby3, cell_to sx30 hby3⟩) ?rm292
  case ry292 => first | exact Or.inl ⟨by rfl, by intro w' hw'; (try dsimp only at hw'); go_simp; first | done | rfl⟩ | exact Or.inr ⟨by rfl, rfl⟩ | exact Or.inr ⟨by rfl, by rfl⟩
  case rm292 =>
  simp only [Act.put, List.setIfInBounds_toArray, List.set_cons_zero, List.set_cons_succ]
  refine anyC_put 37 80 ?rv293 #[true, true, true, true, true, true, true, true, true, true, true, true, true, true, true, true, true, true, true, true, true, true, true, true, true, true, true, true, true, true, true, true, true, true, true, true, true, true, false, false, false] rfl rfl rfl (by kernel_rfl) (by kernel_rfl) (by kernel_rfl) (fun _ _ _ h => h) ?ry293 (⟨(B59.out.go hby3).c0, (B59.out.go hby3).c1, (B59.out.go hby3).c2, (B60.out.go hby3).c0, (B60.out.go hby3).c1, (B60.out.go hby3).c2, (B61.out.go hby3).c0, (B61.out.go hby3).c1, (B61.out.go hby3).c2, cell_to sx11 hby3, cell_to sx20 hby3, cell_to sx21 hby3, cell_to sx30 hby3⟩) ?rm293
  case ry293 => first | exact Or.inl ⟨by rfl, by intro w'; go_simp; first | done | rfl⟩ | exact Or.inr ⟨by rfl, rfl⟩ | exact Or.inr ⟨by rfl, by rfl⟩
  case rm293 =>
  simp only [Act.put, List.setIfInBounds_toArray, List.set_cons_zero, List.set_cons_succ]
  refine anyC_take 38 81 ?rv294 #[true, true, true, true, true, true, true, true, true, true, true, true, true, true, true, true, true, true, true, true, true, true, true, true, true, true, true, true, true, true, true, true, true, true, true, true, true, true, true, false, false] rfl rfl rfl (by kernel_rfl) (by kernel_rfl) (by kernel_rfl) (fun _ _ _ h => h) ?ry294 (⟨(B59.out.go hby3).c0, (B59.out.go hby3).c1, (B59.out.go hby3).c2, (B60.out.go hby3).c0, (B60.out.go hby3).c1, (B60.out.go hby3).c2, (B61.out.go hby3).c0, (B61.out.go hby3).c1, (B61.out.go hby3).c2, cell_to sx11 hby3, cell_to sx20 hby3, cell_to sx21 hby3, cell_to sx30 hby3⟩) ?rm294
  case ry294 => first | exact Or.inl ⟨by rfl, by intro w' hw'; (try dsimp only at hw'); go_simp; first | done | rfl⟩ | exact Or.inr ⟨by rfl, rfl⟩ | exact Or.inr ⟨by rfl, by rfl⟩
  case rm294 =>
  simp only [Act.put, List.setIfInBounds_toArray, List.set_cons_zero, List.set_cons_succ]
  refine anyC_put 39 82 ?rv295 #[true, true, true, true, true, true, true, true, true, true, true, true, true, true, true, true, true, true, true, true, true, true, true, true, true, true, true, true, true, true, true, true, true, true, true, true, true, true, true, true, false] rfl rfl rfl (by kernel_rfl) (by kernel_rfl) (by kernel_rfl) (fun _ _ _ h => h) ?ry295 (⟨(B59.out.go hby3).c0, (B59.out.go hby3).c1, (B59.out.go hby3).c2, (B60.out.go hby3).c0, (B60.out.go hby3).c1, (B60.out.go hby3).c2, (B61.out.go hby3).c0, (B61.out.go hby3).c1, (B61.out.go hby3).c2, cell_to sx11 hby3, cell_to sx20 hby3, cell_to sx21 hby3, cell_to sx30 hby3⟩) ?rm295
  case ry295 => first | exact Or.inl ⟨by rfl, by intro w'; go_simp; first | done | rfl⟩ | exact Or.inr ⟨by rfl, rfl⟩ | exact Or.inr ⟨by rfl, by rfl⟩
  case rm295 =>
  simp only [Act.put, List.setIfInBounds_toArray, List.set_cons_zero, List.set_cons_succ]
  refine anyC_put 40 83 ?rv296 #[true, true, true, true, true, true, true, true, true, true, true, true, true, true, true, true, true, true, true, true, true, true, true, true, true, true, true, true, true, true, true, true, true, true, true, true, true, true, true, true, true] rfl rfl rfl (by kernel_rfl) (by kernel_rfl) (by kernel_rfl) (fun _ _ _ h => h) ?ry296 (⟨(B59.out.go hby3).c0, (B59.out.go hby3).c1, (B59.out.go hby3).c2, (B60.out.go hby3).c0, (B60.out.go hby3).c1, (B60.out.go hby3).c2, (B61.out.go hby3).c0, (B61.out.go hby3).c1, (B61.out.go hby3).c2, cell_to sx11 hby3, cell_to sx20 hby3, cell_to sx21 hby3, cell_to sx30 hby3⟩) ?rm296
  case ry296 => first | exact Or.inl ⟨by rfl, by intro w'; go_simp; first | done | rfl⟩
  case rm296 =>
  simp only [Act.put, List.setIfInBounds_toArray, List.set_cons_zero, List.set_cons_succ]
  refine anyC_done (by kernel_rfl) ?_
  have hB := hby3
  have z66 : wo57.heap.size ≤ y3.heap.size := hB.size
  have B67 : Hid (Abx y3 (w.heap.size) (.bool false) (.slice (some ⟨b1, o1, none⟩) sz1.length sc1) (.slice da1 dz1.length dc1)) := B59.out.go hB
  have B68 : Hid (Abx y3 (w.heap.size + 1) (.bool false) (.slice (some ⟨b2, o2, none⟩) sz2.length sc2) (.slice da2 dz2.length dc2)) := B60.out.go hB
  have B69 : Hid (Abx y3 (w.heap.size + 1 + 1) (.bool false) (.slice (some ⟨b3, o3, none⟩) sz3.length sc3) (.slice da3 dz3.length dc3)) := B61.out.go hB
  have hb70 : Hid (Below w.heap.size w y3) := hb65.out.trans (hB.mono hb65.out.size)
  clear hB hb65 B59 B60 B61
  have l71 := (B67.out).c0
  have l72 := (B67.out).c1
  have l73 := (B67.out).c2
  have l74 := (B68.out).c0
  have l75 := (B68.out).c1
  have l76 := (B68.out).c2
  go_wp2_with fail
  clear l71 l72 l73 l74 l75 l76
  refine (niw_ok f g false (some ⟨b1, o1, none⟩) sc1 sz1 sz1.length rfl da1 dc1 dz1 dz1.length rfl false (some ⟨b2, o2, none⟩) sc2 sz2 sz2.length rfl da2 dc2 dz2 dz2.length rfl _ hf hg x11 x12 ((HI1.out.1.below hb70.out).mono hb70.out.size) ((HI1.out.2.1.1.below hb70.out).mono hb70.out.size) HI1.out.2.2.2 x21 x22 ((HI2.out.1.below hb70.out).mono hb70.out.size) ((HI2.out.2.1.1.below hb70.out).mono hb70.out.size) HI2.out.2.2.2 S1 D1 HNi HR1.out).mono ?_
  rintro e v4 ⟨xa1, xc1, ya1, yc1, rfl, hX1, hY1, hB⟩
  have z77 : y3.heap.size ≤ v4.heap.size := hB.size
  have B78 : Hid (Abx v4 (w.heap.size) (.bool false) (.slice (some ⟨b1, o1, none⟩) sz1.length sc1) (.slice da1 dz1.length dc1)) := B67.out.go hB
  have B79 : Hid (Abx v4 (w.heap.size + 1) (.bool false) (.slice (some ⟨b2, o2, none⟩) sz2.length sc2) (.slice da2 dz2.length dc2)) := B68.out.go hB
  have B80 : Hid (Abx v4 (w.heap.size + 1 + 1) (.bool false) (.slice (some ⟨b3, o3, none⟩) sz3.length sc3) (.slice da3 dz3.length dc3)) := B69.out.go hB
  have hb81 : Hid (Below w.heap.size w v4) := hb70.out.trans (hB.mono hb70.out.size)
  have L82 : Hid (MidC (y3.heap.size) (v4.heap.size) v4 (xa1) (S1) (xc1)) := hX1.midc
  have L83 : Hid (MidC (y3.heap.size) (v4.heap.size) v4 (ya1) (D1) (yc1)) := hY1.midc
  clear hB hb70 B67 B68 B69 hX1 hY1
  have n84 := Abx.new v4 (.bool false) (.slice xa1 S1.length xc1) (.slice ya1 D1.length yc1)
  have l85 := (n84).c0
  have l86 := (n84).c1
  have l87 := (n84).c2
  have l88 := ((B80.out.al (.cells #[.bool false, .slice xa1 S1.length xc1, .slice ya1 D1.length yc1] 25))).c0
  have l89 := ((B80.out.al (.cells #[.bool false, .slice xa1 S1.length xc1, .slice ya1 D1.length yc1] 25))).c1
  have l90 := ((B80.out.al (.cells #[.bool false, .slice xa1 S1.length xc1, .slice ya1 D1.length yc1] 25))).c2
  go_wp2_with fail
  obtain ⟨wo91, hwo91⟩ : ∃ wo91, wo91 = (v4.alloc (.cells #[.bool false, .slice xa1 S1.length xc1, .slice ya1 D1.length yc1] 25)) := ⟨_, rfl⟩
  rw [← hwo91]
  have z92 : v4.heap.size + 1 ≤ wo91.heap.size := by rw [hwo91]; simp only [World.size_alloc]; omega
  have B93 : Hid (Abx wo91 (w.heap.size) (.bool false) (.slice (some ⟨b1, o1, none⟩) sz1.length sc1) (.slice da1 dz1.length dc1)) := by rw [hwo91]; exact (B78.out.al (.cells #[.bool false, .slice xa1 S1.length xc1, .slice ya1 D1.length yc1] 25))
  have B94 : Hid (Abx wo91 (w.heap.size + 1) (.bool false) (.slice (some ⟨b2, o2, none⟩) sz2.length sc2) (.slice da2 dz2.length dc2)) := by rw [hwo91]; exact (B79.out.al (.cells #[.bool false, .slice xa1 S1.length xc1, .slice ya1 D1.length yc1] 25))
  have B95 : Hid (Abx wo91 (w.heap.size + 1 + 1) (.bool false) (.slice (some ⟨b3, o3, none⟩) sz3.length sc3) (.slice da3 dz3.length dc3)) := by rw [hwo91]; exact (B80.out.al (.cells #[.bool false, .slice xa1 S1.length xc1, .slice ya1 D1.length yc1] 25))
  have B96 : Hid (Abx wo91 (v4.heap.size) (.bool false) (.slice xa1 S1.length xc1) (.slice ya1 D1.length yc1)) := by rw [hwo91]; exact n84
  have L97 : Hid (MidC (y3.heap.size) (v4.heap.size) wo91 (xa1) (S1) (xc1)) := by rw [hwo91]; exact (L82.out.al (by omega) (.cells #[.bool false, .slice xa1 S1.length xc1, .slice ya1 D1.length yc1] 25))
  have L98 : Hid (MidC (y3.heap.size) (v4.heap.size) wo91 (ya1) (D1) (yc1)) := by rw [hwo91]; exact (L83.out.al (by omega) (.cells #[.bool false, .slice xa1 S1.length xc1, .slice ya1 D1.length yc1] 25))
  have hb99 : Hid (Below w.heap.size w wo91) := by rw [hwo91]; exact (hb81.out.alloc (by omega) (.cells #[.bool false, .slice xa1 S1.length xc1, .slice ya1 D1.length yc1] 25))
  have zwo91 : w.heap.size ≤ wo91.heap.size := hb99.out.size
  clear hwo91 n84 l85 l86 l87 l88 l89 l90 hb81 B78 B79 B80 L82 L83
  refine (niw_ok f g false xa1 xc1 S1 S1.length rfl ya1 yc1 D1 D1.length rfl false (some ⟨b3, o3, none⟩) sc3 sz3 sz3.length rfl da3 dc3 dz3 dz3.length rfl _ hf hg (by omega) (by omega) (L97.out.is (by omega)) (L98.out.is (by omega)).1 HTT.out.1 x31 x32 ((HI3.out.1.below hb99.out).mono hb99.out.size) ((HI3.out.2.1.1.below hb99.out).mono hb99.out.size) HI3.out.2.2.2 S2 D2 HNi HR2.out).mono ?_
  rintro e v5 ⟨xa2, xc2, ya2, yc2, rfl, hX2, hY2, hB⟩
  have z100 : wo91.heap.size ≤ v5.heap.size := hB.size
  have B101 : Hid (Abx v5 (w.heap.size) (.bool false) (.slice (some ⟨b1, o1, none⟩) sz1.length sc1) (.slice da1 dz1.length dc1)) := B93.out.go hB
  have B102 : Hid (Abx v5 (w.heap.size + 1) (.bool false) (.slice (some ⟨b2, o2, none⟩) sz2.length sc2) (.slice da2 dz2.length dc2)) := B94.out.go hB
  have B103 : Hid (Abx v5 (w.heap.size + 1 + 1) (.bool false) (.slice (some ⟨b3, o3, none⟩) sz3.length sc3) (.slice da3 dz3.length dc3)) := B95.out.go hB
  have B104 : Hid (Abx v5 (v4.heap.size) (.bool false) (.slice xa1 S1.length xc1) (.slice ya1 D1.length yc1)) := B96.out.go hB
  have L105 : Hid (MidC (y3.heap.size) (v4.heap.size) v5 (xa1) (S1) (xc1)) := L97.out.go (by omega) hB
  have L106 : Hid (MidC (y3.heap.size) (v4.heap.size) v5 (ya1) (D1) (yc1)) := L98.out.go (by omega) hB
  have hb107 : Hid (Below w.heap.size w v5) := hb99.out.trans (hB.mono hb99.out.size)
  have L108 : Hid (MidC (wo91.heap.size) (v5.heap.size) v5 (xa2) (S2) (xc2)) := hX2.midc
  have L109 : Hid (MidC (wo91.heap.size) (v5.heap.size) v5 (ya2) (D2) (yc2)) := hY2.midc
  clear hB hb99 B93 B94 B95 B96 L97 L98 hX2 hY2
  clear L105 L106
  have l110 := (B104.out).fr 0
  have l111 := (B104.out).c0
  have l112 := (B104.out).fr 1
  have l113 := (B104.out).c1
  have l114 := (B104.out).fr 2
  have l115 := (B104.out).c2
  have l116 := ((abx_o3 B102.out (B := v4.heap.size) (by omega) (.bool false) (.slice xa2 S2.length xc2) (.slice ya2 D2.length yc2))).c0
  have l117 := ((abx_o3 B102.out (B := v4.heap.size) (by omega) (.bool false) (.slice xa2 S2.length xc2) (.slice ya2 D2.length yc2))).c1
  have l118 := ((abx_o3 B102.out (B := v4.heap.size) (by omega) (.bool false) (.slice xa2 S2.length xc2) (.slice ya2 D2.length yc2))).c2
  have l119 := ((abx_o3 B103.out (B := v4.heap.size) (by omega) (.bool false) (.slice xa2 S2.length xc2) (.slice ya2 D2.length yc2))).c0
  have l120 := ((abx_o3 B103.out (B := v4.heap.size) (by omega) (.bool false) (.slice xa2 S2.length xc2) (.slice ya2 D2.length yc2))).c1
  have l121 := ((abx_o3 B103.out (B := v4.heap.size) (by omega) (.bool false) (.slice xa2 S2.length xc2) (.slice ya2 D2.length yc2))).c2
  go_wp2_with fail
  obtain ⟨wo122, hwo122⟩ : ∃ wo122, wo122 = (((v5.setCell ⟨v4.heap.size, 0, none⟩ (.bool false)).setCell ⟨v4.heap.size, 1, none⟩ (.slice xa2 S2.length xc2)).setCell ⟨v4.heap.size, 2, none⟩ (.slice ya2 D2.length yc2)) := ⟨_, rfl⟩
  rw [← hwo122]
  have z123 : v5.heap.size ≤ wo122.heap.size := by rw [hwo122]; simp only [World.size_setCell]; omega
  have B124 : Hid (Abx wo122 (w.heap.size) (.bool false) (.slice (some ⟨b1, o1, none⟩) sz1.length sc1) (.slice da1 dz1.length dc1)) := by rw [hwo122]; exact (abx_o3 B101.out (B := v4.heap.size) (by omega) (.bool false) (.slice xa2 S2.length xc2) (.slice ya2 D2.length yc2))
  have B125 : Hid (Abx wo122 (w.heap.size + 1) (.bool false) (.slice (some ⟨b2, o2, none⟩) sz2.length sc2) (.slice da2 dz2.length dc2)) := by rw [hwo122]; exact (abx_o3 B102.out (B := v4.heap.size) (by omega) (.bool false) (.slice xa2 S2.length xc2) (.slice ya2 D2.length yc2))
  have B126 : Hid (Abx wo122 (w.heap.size + 1 + 1) (.bool false) (.slice (some ⟨b3, o3, none⟩) sz3.length sc3) (.slice da3 dz3.length dc3)) := by rw [hwo122]; exact (abx_o3 B103.out (B := v4.heap.size) (by omega) (.bool false) (.slice xa2 S2.length xc2) (.slice ya2 D2.length yc2))
  have B127 : Hid (Abx wo122 (v4.heap.size) (.bool false) (.slice xa2 S2.length xc2) (.slice ya2 D2.length yc2)) := by rw [hwo122]; exact (B104.out.set3 (.bool false) (.slice xa2 S2.length xc2) (.slice ya2 D2.length yc2))
  have L128 : Hid (MidC (wo91.heap.size) (v5.heap.size) wo122 (xa2) (S2) (xc2)) := by rw [hwo122]; exact (L108.out.s3 (b := v4.heap.size) (by omega) (.bool false) (.slice xa2 S2.length xc2) (.slice ya2 D2.length yc2))
  have L129 : Hid (MidC (wo91.heap.size) (v5.heap.size) wo122 (ya2) (D2) (yc2)) := by rw [hwo122]; exact (L109.out.s3 (b := v4.heap.size) (by omega) (.bool false) (.slice xa2 S2.length xc2) (.slice ya2 D2.length yc2))
  have hb130 : Hid (Below w.heap.size w wo122) := by rw [hwo122]; exact (bel_s3 hb107.out (B := v4.heap.size) (by omega) (.bool false) (.slice xa2 S2.length xc2) (.slice ya2 D2.length yc2))
  have zwo122 : w.heap.size ≤ wo122.heap.size := hb130.out.size
  clear hwo122 l110 l111 l112 l113 l114 l115 l116 l117 l118 l119 l120 l121 hb107 B101 B102 B103 B104 L108 L109
  refine (niw_ok f g false (some ⟨b2, o2, none⟩) sc2 sz2 sz2.length rfl da2 dc2 dz2 dz2.length rfl false (some ⟨b3, o3, none⟩) sc3 sz3 sz3.length rfl da3 dc3 dz3 dz3.length rfl _ hf hg x21 x22 ((HI2.out.1.below hb130.out).mono hb130.out.size) ((HI2.out.2.1.1.below hb130.out).mono hb130.out.size) HI2.out.2.2.2 x31 x32 ((HI3.out.1.below hb130.out).mono hb130.out.size) ((HI3.out.2.1.1.below hb130.out).mono hb130.out.size) HI3.out.2.2.2 S3 D3 HNi HR3.out).mono ?_
  rintro e v6 ⟨xa3, xc3, ya3, yc3, rfl, hX3, hY3, hB⟩
  have z131 : wo122.heap.size ≤ v6.heap.size := hB.size
  have B132 : Hid (Abx v6 (w.heap.size) (.bool false) (.slice (some ⟨b1, o1, none⟩) sz1.length sc1) (.slice da1 dz1.length dc1)) := B124.out.go hB
  have B133 : Hid (Abx v6 (w.heap.size + 1) (.bool false) (.slice (some ⟨b2, o2, none⟩) sz2.length sc2) (.slice da2 dz2.length dc2)) := B125.out.go hB
  have B134 : Hid (Abx v6 (w.heap.size + 1 + 1) (.bool false) (.slice (some ⟨b3, o3, none⟩) sz3.length sc3) (.slice da3 dz3.length dc3)) := B126.out.go hB
  have B135 : Hid (Abx v6 (v4.heap.size) (.bool false) (.slice xa2 S2.length xc2) (.slice ya2 D2.length yc2)) := B127.out.go hB
  have L136 : Hid (MidC (wo91.heap.size) (v5.heap.size) v6 (xa2) (S2) (xc2)) := L128.out.go (by omega) hB
  have L137 : Hid (MidC (wo91.heap.size) (v5.heap.size) v6 (ya2) (D2) (yc2)) := L129.out.go (by omega) hB
  have hb138 : Hid (Below w.heap.size w v6) := hb130.out.trans (hB.mono hb130.out.size)
  have L139 : Hid (MidC (wo122.heap.size) (v6.heap.size) v6 (xa3) (S3) (xc3)) := hX3.midc
  have L140 : Hid (MidC (wo122.heap.size) (v6.heap.size) v6 (ya3) (D3) (yc3)) := hY3.midc
  clear hB hb130 B124 B125 B126 B127 L128 L129 hX3 hY3
  have n141 := Abx.new v6 (.bool false) (.slice xa3 S3.length xc3) (.slice ya3 D3.length yc3)
  have l142 := (n141).c0
  have l143 := (n141).c1
  have l144 := (n141).c2
  have l145 := ((B132.out.al (.cells #[.bool false, .slice xa3 S3.length xc3, .slice ya3 D3.length yc3] 25))).c0
  have l146 := ((B132.out.al (.cells #[.bool false, .slice xa3 S3.length xc3, .slice ya3 D3.length yc3] 25))).c1
  have l147 := ((B132.out.al (.cells #[.bool false, .slice xa3 S3.length xc3, .slice ya3 D3.length yc3] 25))).c2
  go_wp2_with fail
  obtain ⟨wo148, hwo148⟩ : ∃ wo148, wo148 = (v6.alloc (.cells #[.bool false, .slice xa3 S3.length xc3, .slice ya3 D3.length yc3] 25)) := ⟨_, rfl⟩
  rw [← hwo148]
  have z149 : v6.heap.size + 1 ≤ wo148.heap.size := by rw [hwo148]; simp only [World.size_alloc]; omega
  have B150 : Hid (Abx wo148 (w.heap.size) (.bool false) (.slice (some ⟨b1, o1, none⟩) sz1.length sc1) (.slice da1 dz1.length dc1)) := by rw [hwo148]; exact (B132.out.al (.cells #[.bool false, .slice xa3 S3.length xc3, .slice ya3 D3.length yc3] 25))
  have B151 : Hid (Abx wo148 (w.heap.size + 1) (.bool false) (.slice (some ⟨b2, o2, none⟩) sz2.length sc2) (.slice da2 dz2.length dc2)) := by rw [hwo148]; exact (B133.out.al (.cells #[.bool false, .slice xa3 S3.length xc3, .slice ya3 D3.length yc3] 25))
  have B152 : Hid (Abx wo148 (w.heap.size + 1 + 1) (.bool false) (.slice (some ⟨b3, o3, none⟩) sz3.length sc3) (.slice da3 dz3.length dc3)) := by rw [hwo148]; exact (B134.out.al (.cells #[.bool false, .slice xa3 S3.length xc3, .slice ya3 D3.length yc3] 25))
  have B153 : Hid (Abx wo148 (v4.heap.size) (.bool false) (.slice xa2 S2.length xc2) (.slice ya2 D2.length yc2)) := by rw [hwo148]; exact (B135.out.al (.cells #[.bool false, .slice xa3 S3.length xc3, .slice ya3 D3.length yc3] 25))
  have B154 : Hid (Abx wo148 (v6.heap.size) (.bool false) (.slice xa3 S3.length xc3) (.slice ya3 D3.length yc3)) := by rw [hwo148]; exact n141
  have L155 : Hid (MidC (wo91.heap.size) (v5.heap.size) wo148 (xa2) (S2) (xc2)) := by rw [hwo148]; exact (L136.out.al (by omega) (.cells #[.bool false, .slice xa3 S3.length xc3, .slice ya3 D3.length yc3] 25))
  have L156 : Hid (MidC (wo91.heap.size) (v5.heap.size) wo148 (ya2) (D2) (yc2)) := by rw [hwo148]; exact (L137.out.al (by omega) (.cells #[.bool false, .slice xa3 S3.length xc3, .slice ya3 D3.length yc3] 25))
  have L157 : Hid (MidC (wo122.heap.size) (v6.heap.size) wo148 (xa3) (S3) (xc3)) := by rw [hwo148]; exact (L139.out.al (by omega) (.cells #[.bool false, .slice xa3 S3.length xc3, .slice ya3 D3.length yc3] 25))
  have L158 : Hid (MidC (wo122.heap.size) (v6.heap.size) wo148 (ya3) (D3) (yc3)) := by rw [hwo148]; exact (L140.out.al (by omega) (.cells #[.bool false, .slice xa3 S3.length xc3, .slice ya3 D3.length yc3] 25))
  have hb159 : Hid (Below w.heap.size w wo148) := by rw [hwo148]; exact (hb138.out.alloc (by omega) (.cells #[.bool false, .slice xa3 S3.length xc3, .slice ya3 D3.length yc3] 25))
  have zwo148 : w.heap.size ≤ wo148.heap.size := hb159.out.size
  clear hwo148 n141 l142 l143 l144 l145 l146 l147 hb138 B132 B133 B134 B135 L136 L137 L139 L140
  refine (niw_ok f g false (some ⟨b1, o1, none⟩) sc1 sz1 sz1.length rfl da1 dc1 dz1 dz1.length rfl false xa3 xc3 S3 S3.length rfl ya3 yc3 D3 D3.length rfl _ hf hg x11 x12 ((HI1.out.1.below hb159.out).mono hb159.out.size) ((HI1.out.2.1.1.below hb159.out).mono hb159.out.size) HI1.out.2.2.2 (by omega) (by omega) (L157.out.is (by omega)) (L158.out.is (by omega)).1 HTT.out.2 S2 D2 HNi HR4.out).mono ?_
  rintro e v7 ⟨xa4, xc4, ya4, yc4, rfl, hX4, hY4, hB⟩
  have z160 : wo148.heap.size ≤ v7.heap.size := hB.size
  have B161 : Hid (Abx v7 (w.heap.size) (.bool false) (.slice (some ⟨b1, o1, none⟩) sz1.length sc1) (.slice da1 dz1.length dc1)) := B150.out.go hB
  have B162 : Hid (Abx v7 (w.heap.size + 1) (.bool false) (.slice (some ⟨b2, o2, none⟩) sz2.length sc2) (.slice da2 dz2.length dc2)) := B151.out.go hB
  have B163 : Hid (Abx v7 (w.heap.size + 1 + 1) (.bool false) (.slice (some ⟨b3, o3, none⟩) sz3.length sc3) (.slice da3 dz3.length dc3)) := B152.out.go hB
  have B164 : Hid (Abx v7 (v4.heap.size) (.bool false) (.slice xa2 S2.length xc2) (.slice ya2 D2.length yc2)) := B153.out.go hB
  have B165 : Hid (Abx v7 (v6.heap.size) (.bool false) (.slice xa3 S3.length xc3) (.slice ya3 D3.length yc3)) := B154.out.go hB
  have L166 : Hid (MidC (wo91.heap.size) (v5.heap.size) v7 (xa2) (S2) (xc2)) := L155.out.go (by omega) hB
  have L167 : Hid (MidC (wo91.heap.size) (v5.heap.size) v7 (ya2) (D2) (yc2)) := L156.out.go (by omega) hB
  have L168 : Hid (MidC (wo122.heap.size) (v6.heap.size) v7 (xa3) (S3) (xc3)) := L157.out.go (by omega) hB
  have L169 : Hid (MidC (wo122.heap.size) (v6.heap.size) v7 (ya3) (D3) (yc3)) := L158.out.go (by omega) hB
  have hb170 : Hid (Below w.heap.size w v7) := hb159.out.trans (hB.mono hb159.out.size)
  have L171 : Hid (MidC (wo148.heap.size) (v7.heap.size) v7 (xa4) (S2) (xc4)) := hX4.midc
  have L172 : Hid (MidC (wo148.heap.size) (v7.heap.size) v7 (ya4) (D2) (yc4)) := hY4.midc
  clear hB hb159 B150 B151 B152 B153 B154 L155 L156 L157 L158 hX4 hY4
  clear L168 L169
  have l173 := (B165.out).fr 0
  have l174 := (B165.out).c0
  have l175 := (B165.out).fr 1
  have l176 := (B165.out).c1
  have l177 := (B165.out).fr 2
  have l178 := (B165.out).c2
  have l179 := ((abx_o3 B164.out (B := v6.heap.size) (by omega) (.bool false) (.slice xa4 S2.length xc4) (.slice ya4 D2.length yc4))).c0
  have l180 := ((abx_o3 B164.out (B := v6.heap.size) (by omega) (.bool false) (.slice xa4 S2.length xc4) (.slice ya4 D2.length yc4))).c1
  have l181 := ((abx_o3 B164.out (B := v6.heap.size) (by omega) (.bool false) (.slice xa4 S2.length xc4) (.slice ya4 D2.length yc4))).c2
  have l182 := ((B165.out.set3 (.bool false) (.slice xa4 S2.length xc4) (.slice ya4 D2.length yc4))).c0
  have l183 := ((B165.out.set3 (.bool false) (.slice xa4 S2.length xc4) (.slice ya4 D2.length yc4))).c1
  have l184 := ((B165.out.set3 (.bool false) (.slice xa4 S2.length xc4) (.slice ya4 D2.length yc4))).c2
  go_wp2_with fail
  obtain ⟨wo185, hwo185⟩ : ∃ wo185, wo185 = (((v7.setCell ⟨v6.heap.size, 0, none⟩ (.bool false)).setCell ⟨v6.heap.size, 1, none⟩ (.slice xa4 S2.length xc4)).setCell ⟨v6.heap.size, 2, none⟩ (.slice ya4 D2.length yc4)) := ⟨_, rfl⟩
  rw [← hwo185]
  have z186 : v7.heap.size ≤ wo185.heap.size := by rw [hwo185]; simp only [World.size_setCell]; omega
  have B187 : Hid (Abx wo185 (w.heap.size) (.bool false) (.slice (some ⟨b1, o1, none⟩) sz1.length sc1) (.slice da1 dz1.length dc1)) := by rw [hwo185]; exact (abx_o3 B161.out (B := v6.heap.size) (by omega) (.bool false) (.slice xa4 S2.length xc4) (.slice ya4 D2.length yc4))
  have B188 : Hid (Abx wo185 (w.heap.size + 1) (.bool false) (.slice (some ⟨b2, o2, none⟩) sz2.length sc2) (.slice da2 dz2.length dc2)) := by rw [hwo185]; exact (abx_o3 B162.out (B := v6.heap.size) (by omega) (.bool false) (.slice xa4 S2.length xc4) (.slice ya4 D2.length yc4))
  have B189 : Hid (Abx wo185 (w.heap.size + 1 + 1) (.bool false) (.slice (some ⟨b3, o3, none⟩) sz3.length sc3) (.slice da3 dz3.length dc3)) := by rw [hwo185]; exact (abx_o3 B163.out (B := v6.heap.size) (by omega) (.bool false) (.slice xa4 S2.length xc4) (.slice ya4 D2.length yc4))
  have B190 : Hid (Abx wo185 (v4.heap.size) (.bool false) (.slice xa2 S2.length xc2) (.slice ya2 D2.length yc2)) := by rw [hwo185]; exact (abx_o3 B164.out (B := v6.heap.size) (by omega) (.bool false) (.slice xa4 S2.length xc4) (.slice ya4 D2.length yc4))
  have B191 : Hid (Abx wo185 (v6.heap.size) (.bool false) (.slice xa4 S2.length xc4) (.slice ya4 D2.length yc4)) := by rw [hwo185]; exact (B165.out.set3 (.bool false) (.slice xa4 S2.length xc4) (.slice ya4 D2.length yc4))
  have L192 : Hid (MidC (wo91.heap.size) (v5.heap.size) wo185 (xa2) (S2) (xc2)) := by rw [hwo185]; exact (L166.out.s3 (b := v6.heap.size) (by omega) (.bool false) (.slice xa4 S2.length xc4) (.slice ya4 D2.length yc4))
  have L193 : Hid (MidC (wo91.heap.size) (v5.heap.size) wo185 (ya2) (D2) (yc2)) := by rw [hwo185]; exact (L167.out.s3 (b := v6.heap.size) (by omega) (.bool false) (.slice xa4 S2.length xc4) (.slice ya4 D2.length yc4))
  have L194 : Hid (MidC (wo148.heap.size) (v7.heap.size) wo185 (xa4) (S2) (xc4)) := by rw [hwo185]; exact (L171.out.s3 (b := v6.heap.size) (by omega) (.bool false) (.slice xa4 S2.length xc4) (.slice ya4 D2.length yc4))
  have L195 : Hid (MidC (wo148.heap.size) (v7.heap.size) wo185 (ya4) (D2) (yc4)) := by rw [hwo185]; exact (L172.out.s3 (b := v6.heap.size) (by omega) (.bool false) (.slice xa4 S2.length xc4) (.slice ya4 D2.length yc4))
  have hb196 : Hid (Below w.heap.size w wo185) := by rw [hwo185]; exact (bel_s3 hb170.out (B := v6.heap.size) (by omega) (.bool false) (.slice xa4 S2.length xc4) (.slice ya4 D2.length yc4))
  have zwo185 : w.heap.size ≤ wo185.heap.size := hb196.out.size
  clear hwo185 l173 l174 l175 l176 l177 l178 l179 l180 l181 l182 l183 l184 hb170 B161 B162 B163 B164 B165 L166 L167 L171 L172
  refine (alike_eq false xa2 xc2 S2 ya2 yc2 D2 xa4 xc4 S2 ya4 yc4 D2 rfl rfl (by omega) (by omega) _ (L192.out.is (by omega)) (L193.out.is (by omega)).1 (L194.out.is (by omega)) (L195.out.is (by omega)).1).mono ?_
  rintro e v8 ⟨rfl, hB⟩
  have z197 : wo185.heap.size ≤ v8.heap.size := hB.size
  have B198 : Hid (Abx v8 (w.heap.size) (.bool false) (.slice (some ⟨b1, o1, none⟩) sz1.length sc1) (.slice da1 dz1.length dc1)) := B187.out.go hB
  have B199 : Hid (Abx v8 (w.heap.size + 1) (.bool false) (.slice (some ⟨b2, o2, none⟩) sz2.length sc2) (.slice da2 dz2.length dc2)) := B188.out.go hB
  have B200 : Hid (Abx v8 (w.heap.size + 1 + 1) (.bool false) (.slice (some ⟨b3, o3, none⟩) sz3.length sc3) (.slice da3 dz3.length dc3)) := B189.out.go hB
  have B201 : Hid (Abx v8 (v4.heap.size) (.bool false) (.slice xa2 S2.length xc2) (.slice ya2 D2.length yc2)) := B190.out.go hB
  have B202 : Hid (Abx v8 (v6.heap.size) (.bool false) (.slice xa4 S2.length xc4) (.slice ya4 D2.length yc4)) := B191.out.go hB
  have L203 : Hid (MidC (wo91.heap.size) (v5.heap.size) v8 (xa2) (S2) (xc2)) := L192.out.go (by omega) hB
  have L204 : Hid (MidC (wo91.heap.size) (v5.heap.size) v8 (ya2) (D2) (yc2)) := L193.out.go (by omega) hB
  have L205 : Hid (MidC (wo148.heap.size) (v7.heap.size) v8 (xa4) (S2) (xc4)) := L194.out.go (by omega) hB
  have L206 : Hid (MidC (wo148.heap.size) (v7.heap.size) v8 (ya4) (D2) (yc4)) := L195.out.go (by omega) hB
  have hb207 : Hid (Below w.heap.size w v8) := hb196.out.trans (hB.mono hb196.out.size)
  clear hB hb196 B187 B188 B189 B190 B191 L192 L193 L194 L195
  go_wp2_with fail
  go_ret
  exact ⟨rfl, hb207.out⟩
theorem pchain_walk (HNi : CNi) (f g : Int) (hf : In64 f) (hg : In64 g) (c1 : Bool) (sa1 : Option Addr) (sc1 : Nat) (sz1 : List Int) (da1 : Option Addr) (dc1 : Nat) (dz1 : List Int) (c2 : Bool) (sa2 : Option Addr) (sc2 : Nat) (sz2 : List Int) (da2 : Option Addr) (dc2 : Nat) (dz2 : List Int) (c3 : Bool) (sa3 : Option Addr) (sc3 : Nat) (sz3 : List Int) (da3 : Option Addr) (dc3 : Nat) (dz3 : List Int) (w : World) (w8 : IsArrD w sa1 sz1 sc1 da1 dz1 dc1) (w9 : IsArrD w sa2 sz2 sc2 da2 dz2 dc2) (w10 : IsArrD w sa3 sz3 sc3 da3 dz3 dc3) :
    Calls Try.prog 3 #[.int .i64 f, .int .i64 g, .agg #[.bool c1, .slice sa1 sz1.length sc1, .slice da1 dz1.length dc1], .agg #[.bool c2, .slice sa2 sz2.length sc2, .slice da2 dz2.length dc2], .agg #[.bool c3, .slice sa3 sz3.length sc3, .slice da3 dz3.length dc3]] w fun e w' => e = .returned (.bool true) ∧ Below w.heap.size w w' := by
  by_cases h0 : Srg f g
  · by_cases h1 : GrdP 16 c1 sz1 dz1
    · by_cases h2 : GrdP 16 c2 sz2 dz2
      · by_cases h3 : GrdP 16 c3 sz3 dz3
        · by_cases e1 : nth sz1 1 = nth sz2 0
          · by_cases e2 : nth sz2 1 = nth sz3 0
            · exact chain_ok HNi f g hf hg c1 sa1 sc1 sz1 da1 dc1 dz1 c2 sa2 sc2 sz2 da2 dc2 dz2 c3 sa3 sc3 sz3 da3 dc3 dz3 w w8 w9 w10 h0 h1 h2 h3 e1 e2
            · exact chain_bc HNi f g hf hg c1 sa1 sc1 sz1 da1 dc1 dz1 c2 sa2 sc2 sz2 da2 dc2 dz2 c3 sa3 sc3 sz3 da3 dc3 dz3 w w8 w9 w10 h0 h1 h2 h3 e1 e2
          · exact chain_ab HNi f g hf hg c1 sa1 sc1 sz1 da1 dc1 dz1 c2 sa2 sc2 sz2 da2 dc2 dz2 c3 sa3 sc3 sz3 da3 dc3 dz3 w w8 w9 w10 h0 h1 h2 h3 e1
        · exact chain_g3 HNi f g hf hg c1 sa1 sc1 sz1 da1 dc1 dz1 c2 sa2 sc2 sz2 da2 dc2 dz2 c3 sa3 sc3 sz3 da3 dc3 dz3 w w8 w9 w10 h0 h1 h2 h3
      · exact chain_g2 HNi f g hf hg c1 sa1 sc1 sz1 da1 dc1 dz1 c2 sa2 sc2 sz2 da2 dc2 dz2 c3 sa3 sc3 sz3 da3 dc3 dz3 w w8 w9 w10 h0 h1 h2
    · exact chain_g1 HNi f g hf hg c1 sa1 sc1 sz1 da1 dc1 dz1 c2 sa2 sc2 sz2 da2 dc2 dz2 c3 sa3 sc3 sz3 da3 dc3 dz3 w w8 w9 w10 h0 h1
  · exact chain_s HNi f g hf hg c1 sa1 sc1 sz1 da1 dc1 dz1 c2 sa2 sc2 sz2 da2 dc2 dz2 c3 sa3 sc3 sz3 da3 dc3 dz3 w w8 w9 w10 h0
end Go.Proofs.Ytcpmendkocnlhaa
