/-
  The walk of the statement ProdChain, given what the program tells.
-/
import Derived.Test.YtcpmendkocnlhaaPChainWalkA
namespace Go.Proofs.Ytcpmendkocnlhaa
open Go.RowKit
set_option linter.unusedVariables false

set_option maxRecDepth 100000 in
set_option maxHeartbeats 4000000 in
theorem chain_ab (HNi : CNi) (f g : Int) (hf : In64 f) (hg : In64 g) (c1 : Bool) (sa1 : Option Addr) (sc1 : Nat) (sz1 : List Int) (da1 : Option Addr) (dc1 : Nat) (dz1 : List Int) (c2 : Bool) (sa2 : Option Addr) (sc2 : Nat) (sz2 : List Int) (da2 : Option Addr) (dc2 : Nat) (dz2 : List Int) (c3 : Bool) (sa3 : Option Addr) (sc3 : Nat) (sz3 : List Int) (da3 : Option Addr) (dc3 : Nat) (dz3 : List Int) (w : World) (w8 : IsArrD w sa1 sz1 sc1 da1 dz1 dc1) (w9 : IsArrD w sa2 sz2 sc2 da2 dz2 dc2) (w10 : IsArrD w sa3 sz3 sc3 da3 dz3 dc3) (GS : Hid (Srg f g)) (G1 : Hid (GrdP 16 c1 sz1 dz1)) (G2 : Hid (GrdP 16 c2 sz2 dz2)) (G3 : Hid (GrdP 16 c3 sz3 dz3)) (E1 : Hid (¬ nth sz1 1 = nth sz2 0)) :
    Calls Try.prog 3 #[.int .i64 f, .int .i64 g, .agg #[.bool c1, .slice sa1 sz1.length sc1, .slice da1 dz1.length dc1], .agg #[.bool c2, .slice sa2 sz2.length sc2, .slice da2 dz2.length dc2], .agg #[.bool c3, .slice sa3 sz3.length sc3, .slice da3 dz3.length dc3]] w fun e w' => e = .returned (.bool true) ∧ Below w.heap.size w w' := by
  obtain ⟨b1, o1, rfl, hq1, hc1⟩ := w8.2.2.1.1.at (q := 0) (by rw [G1.out.2.1]; decide)
  have hcf1 := G1.out.1
  subst hcf1
  obtain ⟨m1, hm1⟩ : ∃ m, m = nth sz1 0 := ⟨_, rfl⟩
  obtain ⟨n1, hn1⟩ : ∃ n, n = nth sz1 1 := ⟨_, rfl⟩
  have HC1 : Hid (b1 < w.heap.size ∧ w.cell? ⟨b1, o1, none⟩ = some (.int .i64 m1) ∧ w.cell? ⟨b1, o1 + 1, none⟩ = some (.int .i64 n1)) := ⟨hq1, by have := hc1 0 (by rw [G1.out.2.1]; decide); rw [Nat.add_zero, ← hm1] at this; exact this, by rw [hn1]; exact hc1 1 (by rw [G1.out.2.1]; decide)⟩
  have HM1 : Hid (m1 = nth sz1 0 ∧ n1 = nth sz1 1) := ⟨hm1, hn1⟩
  have hz1 : sz1.length = 2 := G1.out.2.1
  have HZ1 : Hid (sz1.length = 2) := hz1
  have lz1 : 1 < sz1.length := by omega
  have ly1 : 0 < sz1.length := by omega
  have lw1 : (1 : Int) < (sz1.length : Int) := by omega
  have lv1 : (0 : Int) < (sz1.length : Int) := by omega
  clear hq1 hc1 hm1 hn1 hz1
  obtain ⟨b2, o2, rfl, hq2, hc2⟩ := w9.2.2.1.1.at (q := 0) (by rw [G2.out.2.1]; decide)
  have hcf2 := G2.out.1
  subst hcf2
  obtain ⟨m2, hm2⟩ : ∃ m, m = nth sz2 0 := ⟨_, rfl⟩
  obtain ⟨n2, hn2⟩ : ∃ n, n = nth sz2 1 := ⟨_, rfl⟩
  have HC2 : Hid (b2 < w.heap.size ∧ w.cell? ⟨b2, o2, none⟩ = some (.int .i64 m2) ∧ w.cell? ⟨b2, o2 + 1, none⟩ = some (.int .i64 n2)) := ⟨hq2, by have := hc2 0 (by rw [G2.out.2.1]; decide); rw [Nat.add_zero, ← hm2] at this; exact this, by rw [hn2]; exact hc2 1 (by rw [G2.out.2.1]; decide)⟩
  have HM2 : Hid (m2 = nth sz2 0 ∧ n2 = nth sz2 1) := ⟨hm2, hn2⟩
  have hz2 : sz2.length = 2 := G2.out.2.1
  have HZ2 : Hid (sz2.length = 2) := hz2
  have lz2 : 1 < sz2.length := by omega
  have ly2 : 0 < sz2.length := by omega
  have lw2 : (1 : Int) < (sz2.length : Int) := by omega
  have lv2 : (0 : Int) < (sz2.length : Int) := by omega
  clear hq2 hc2 hm2 hn2 hz2
  obtain ⟨b3, o3, rfl, hq3, hc3⟩ := w10.2.2.1.1.at (q := 0) (by rw [G3.out.2.1]; decide)
  have hcf3 := G3.out.1
  subst hcf3
  obtain ⟨m3, hm3⟩ : ∃ m, m = nth sz3 0 := ⟨_, rfl⟩
  obtain ⟨n3, hn3⟩ : ∃ n, n = nth sz3 1 := ⟨_, rfl⟩
  have HC3 : Hid (b3 < w.heap.size ∧ w.cell? ⟨b3, o3, none⟩ = some (.int .i64 m3) ∧ w.cell? ⟨b3, o3 + 1, none⟩ = some (.int .i64 n3)) := ⟨hq3, by have := hc3 0 (by rw [G3.out.2.1]; decide); rw [Nat.add_zero, ← hm3] at this; exact this, by rw [hn3]; exact hc3 1 (by rw [G3.out.2.1]; decide)⟩
  have HM3 : Hid (m3 = nth sz3 0 ∧ n3 = nth sz3 1) := ⟨hm3, hn3⟩
  have hz3 : sz3.length = 2 := G3.out.2.1
  have HZ3 : Hid (sz3.length = 2) := hz3
  have lz3 : 1 < sz3.length := by omega
  have ly3 : 0 < sz3.length := by omega
  have lw3 : (1 : Int) < (sz3.length : Int) := by omega
  have lv3 : (0 : Int) < (sz3.length : Int) := by omega
  clear hq3 hc3 hm3 hn3 hz3
  have t1 : (n1 != m2) = true := by rw [HM1.out.2, HM2.out.1]; simpa using E1.out
  obtain ⟨x11, x12, x3, x4, s64, T⟩ := w8
  have HI1 : Hid (IsC w.heap.size w (some ⟨b1, o1, none⟩) sz1 sc1 ∧ IsC w.heap.size w da1 dz1 dc1 ∧ (∀ j, In64 (nth sz1 j)) ∧ ∀ j, In64 (nth dz1 j)) := ⟨x3, x4, s64, T⟩
  clear x3 x4 T s64
  obtain ⟨x21, x22, x3, x4, s64, T⟩ := w9
  have HI2 : Hid (IsC w.heap.size w (some ⟨b2, o2, none⟩) sz2 sc2 ∧ IsC w.heap.size w da2 dz2 dc2 ∧ (∀ j, In64 (nth sz2 j)) ∧ ∀ j, In64 (nth dz2 j)) := ⟨x3, x4, s64, T⟩
  clear x3 x4 T s64
  obtain ⟨x31, x32, x3, x4, s64, T⟩ := w10
  have HI3 : Hid (IsC w.heap.size w (some ⟨b3, o3, none⟩) sz3 sc3 ∧ IsC w.heap.size w da3 dz3 dc3 ∧ (∀ j, In64 (nth sz3 j)) ∧ ∀ j, In64 (nth dz3 j)) := ⟨x3, x4, s64, T⟩
  clear x3 x4 T s64
  have n1 := Abx.new w (.bool false) (.slice (some ⟨b1, o1, none⟩) sz1.length sc1) (.slice da1 dz1.length dc1)
  have n2 := Abx.new (w.alloc (.cells #[.bool false, .slice (some ⟨b1, o1, none⟩) sz1.length sc1, .slice da1 dz1.length dc1] 25)) (.bool false) (.slice (some ⟨b2, o2, none⟩) sz2.length sc2) (.slice da2 dz2.length dc2)
  simp only [World.size_alloc] at n2
  have n3 := Abx.new ((w.alloc (.cells #[.bool false, .slice (some ⟨b1, o1, none⟩) sz1.length sc1, .slice da1 dz1.length dc1] 25)).alloc (.cells #[.bool false, .slice (some ⟨b2, o2, none⟩) sz2.length sc2, .slice da2 dz2.length dc2] 25)) (.bool false) (.slice (some ⟨b3, o3, none⟩) sz3.length sc3) (.slice da3 dz3.length dc3)
  simp only [World.size_alloc] at n3
  have n4 := lit_mid (((w.alloc (.cells #[.bool false, .slice (some ⟨b1, o1, none⟩) sz1.length sc1, .slice da1 dz1.length dc1] 25)).alloc (.cells #[.bool false, .slice (some ⟨b2, o2, none⟩) sz2.length sc2, .slice da2 dz2.length dc2] 25)).alloc (.cells #[.bool false, .slice (some ⟨b3, o3, none⟩) sz3.length sc3, .slice da3 dz3.length dc3] 25)) 3 [1, 2, 3] 3 rfl
  simp only [World.size_alloc, List.map_cons, List.map_nil] at n4
  go_enter Try.func3, Try.ntmps3
  go_wp2_with fail
  obtain ⟨wo5, hwo5⟩ : ∃ wo5, wo5 = ((((w.alloc (.cells #[.bool false, .slice (some ⟨b1, o1, none⟩) sz1.length sc1, .slice da1 dz1.length dc1] 25)).alloc (.cells #[.bool false, .slice (some ⟨b2, o2, none⟩) sz2.length sc2, .slice da2 dz2.length dc2] 25)).alloc (.cells #[.bool false, .slice (some ⟨b3, o3, none⟩) sz3.length sc3, .slice da3 dz3.length dc3] 25)).alloc (.cells #[.int .i64 1, .int .i64 2, .int .i64 3] 3)) := ⟨_, rfl⟩
  rw [← hwo5]
  have z6 : w.heap.size + 1 + 1 + 1 + 1 ≤ wo5.heap.size := by rw [hwo5]; simp only [World.size_alloc]; omega
  have B7 : Hid (Abx wo5 (w.heap.size) (.bool false) (.slice (some ⟨b1, o1, none⟩) sz1.length sc1) (.slice da1 dz1.length dc1)) := by rw [hwo5]; exact (((n1.al (.cells #[.bool false, .slice (some ⟨b2, o2, none⟩) sz2.length sc2, .slice da2 dz2.length dc2] 25)).al (.cells #[.bool false, .slice (some ⟨b3, o3, none⟩) sz3.length sc3, .slice da3 dz3.length dc3] 25)).al (.cells #[.int .i64 1, .int .i64 2, .int .i64 3] 3))
  have B8 : Hid (Abx wo5 (w.heap.size + 1) (.bool false) (.slice (some ⟨b2, o2, none⟩) sz2.length sc2) (.slice da2 dz2.length dc2)) := by rw [hwo5]; exact ((n2.al (.cells #[.bool false, .slice (some ⟨b3, o3, none⟩) sz3.length sc3, .slice da3 dz3.length dc3] 25)).al (.cells #[.int .i64 1, .int .i64 2, .int .i64 3] 3))
  have B9 : Hid (Abx wo5 (w.heap.size + 1 + 1) (.bool false) (.slice (some ⟨b3, o3, none⟩) sz3.length sc3) (.slice da3 dz3.length dc3)) := by rw [hwo5]; exact (n3.al (.cells #[.int .i64 1, .int .i64 2, .int .i64 3] 3))
  have L10 : Hid (MidC (w.heap.size + 1 + 1 + 1) (w.heap.size + 1 + 1 + 1 + 1) wo5 (some ⟨w.heap.size + 1 + 1 + 1, 0, none⟩) ([1, 2, 3]) (3)) := by rw [hwo5]; exact n4
  have hb11 : Hid (Below w.heap.size w wo5) := by rw [hwo5]; exact (((((Below.refl w.heap.size w).alloc (by omega) (.cells #[.bool false, .slice (some ⟨b1, o1, none⟩) sz1.length sc1, .slice da1 dz1.length dc1] 25)).alloc (by simp only [World.size_alloc]; omega) (.cells #[.bool false, .slice (some ⟨b2, o2, none⟩) sz2.length sc2, .slice da2 dz2.length dc2] 25)).alloc (by simp only [World.size_alloc]; omega) (.cells #[.bool false, .slice (some ⟨b3, o3, none⟩) sz3.length sc3, .slice da3 dz3.length dc3] 25)).alloc (by simp only [World.size_alloc]; omega) (.cells #[.int .i64 1, .int .i64 2, .int .i64 3] 3))
  have zwo5 : w.heap.size ≤ wo5.heap.size := hb11.out.size
  clear hwo5 n1 n2 n3 n4
  refine (vec_c (some ⟨w.heap.size + 1 + 1 + 1, 0, none⟩) 3 [1, 2, 3] (by simp) _ (L10.out.is (by omega)).1).mono ?_
  rintro e v1 ⟨vap, vcp, gap, gcp, rfl, hVp, hGp, hB⟩
  have z12 : wo5.heap.size ≤ v1.heap.size := hB.size
  have B13 : Hid (Abx v1 (w.heap.size) (.bool false) (.slice (some ⟨b1, o1, none⟩) sz1.length sc1) (.slice da1 dz1.length dc1)) := B7.out.go hB
  have B14 : Hid (Abx v1 (w.heap.size + 1) (.bool false) (.slice (some ⟨b2, o2, none⟩) sz2.length sc2) (.slice da2 dz2.length dc2)) := B8.out.go hB
  have B15 : Hid (Abx v1 (w.heap.size + 1 + 1) (.bool false) (.slice (some ⟨b3, o3, none⟩) sz3.length sc3) (.slice da3 dz3.length dc3)) := B9.out.go hB
  have L16 : Hid (MidC (w.heap.size + 1 + 1 + 1) (w.heap.size + 1 + 1 + 1 + 1) v1 (some ⟨w.heap.size + 1 + 1 + 1, 0, none⟩) ([1, 2, 3]) (3)) := L10.out.go (by omega) hB
  have hb17 : Hid (Below w.heap.size w v1) := hb11.out.trans (hB.mono hb11.out.size)
  have L18 : Hid (MidC (wo5.heap.size) (v1.heap.size) v1 (vap) ([(3 : Int)]) (vcp)) := hVp.midc
  have L19 : Hid (MidC (wo5.heap.size) (v1.heap.size) v1 (gap) ([1, 2, 3]) (gcp)) := hGp.midc
  clear hB hb11 B7 B8 B9 L10 hVp hGp
  clear L16
  have n20 := lit_mid v1 3 [4, 5, 6] 3 rfl
  simp only [List.map_cons, List.map_nil] at n20
  go_wp2_with fail
  obtain ⟨wo21, hwo21⟩ : ∃ wo21, wo21 = (v1.alloc (.cells #[.int .i64 4, .int .i64 5, .int .i64 6] 3)) := ⟨_, rfl⟩
  rw [← hwo21]
  have z22 : v1.heap.size + 1 ≤ wo21.heap.size := by rw [hwo21]; simp only [World.size_alloc]; omega
  have B23 : Hid (Abx wo21 (w.heap.size) (.bool false) (.slice (some ⟨b1, o1, none⟩) sz1.length sc1) (.slice da1 dz1.length dc1)) := by rw [hwo21]; exact (B13.out.al (.cells #[.int .i64 4, .int .i64 5, .int .i64 6] 3))
  have B24 : Hid (Abx wo21 (w.heap.size + 1) (.bool false) (.slice (some ⟨b2, o2, none⟩) sz2.length sc2) (.slice da2 dz2.length dc2)) := by rw [hwo21]; exact (B14.out.al (.cells #[.int .i64 4, .int .i64 5, .int .i64 6] 3))
  have B25 : Hid (Abx wo21 (w.heap.size + 1 + 1) (.bool false) (.slice (some ⟨b3, o3, none⟩) sz3.length sc3) (.slice da3 dz3.length dc3)) := by rw [hwo21]; exact (B15.out.al (.cells #[.int .i64 4, .int .i64 5, .int .i64 6] 3))
  have L26 : Hid (MidC (wo5.heap.size) (v1.heap.size) wo21 (vap) ([(3 : Int)]) (vcp)) := by rw [hwo21]; exact (L18.out.al (by omega) (.cells #[.int .i64 4, .int .i64 5, .int .i64 6] 3))
  have L27 : Hid (MidC (wo5.heap.size) (v1.heap.size) wo21 (gap) ([1, 2, 3]) (gcp)) := by rw [hwo21]; exact (L19.out.al (by omega) (.cells #[.int .i64 4, .int .i64 5, .int .i64 6] 3))
  have L28 : Hid (MidC (v1.heap.size) (v1.heap.size + 1) wo21 (some ⟨v1.heap.size, 0, none⟩) ([4, 5, 6]) (3)) := by rw [hwo21]; exact n20
  have hb29 : Hid (Below w.heap.size w wo21) := by rw [hwo21]; exact (hb17.out.alloc (by omega) (.cells #[.int .i64 4, .int .i64 5, .int .i64 6] 3))
  have zwo21 : w.heap.size ≤ wo21.heap.size := hb29.out.size
  clear hwo21 n20 hb17 B13 B14 B15 L18 L19
  refine (vec_c (some ⟨v1.heap.size, 0, none⟩) 3 [4, 5, 6] (by simp) _ (L28.out.is (by omega)).1).mono ?_
  rintro e v2 ⟨vaq, vcq, gaq, gcq, rfl, hVq, hGq, hB⟩
  have z30 : wo21.heap.size ≤ v2.heap.size := hB.size
  have B31 : Hid (Abx v2 (w.heap.size) (.bool false) (.slice (some ⟨b1, o1, none⟩) sz1.length sc1) (.slice da1 dz1.length dc1)) := B23.out.go hB
  have B32 : Hid (Abx v2 (w.heap.size + 1) (.bool false) (.slice (some ⟨b2, o2, none⟩) sz2.length sc2) (.slice da2 dz2.length dc2)) := B24.out.go hB
  have B33 : Hid (Abx v2 (w.heap.size + 1 + 1) (.bool false) (.slice (some ⟨b3, o3, none⟩) sz3.length sc3) (.slice da3 dz3.length dc3)) := B25.out.go hB
  have L34 : Hid (MidC (wo5.heap.size) (v1.heap.size) v2 (vap) ([(3 : Int)]) (vcp)) := L26.out.go (by omega) hB
  have L35 : Hid (MidC (wo5.heap.size) (v1.heap.size) v2 (gap) ([1, 2, 3]) (gcp)) := L27.out.go (by omega) hB
  have L36 : Hid (MidC (v1.heap.size) (v1.heap.size + 1) v2 (some ⟨v1.heap.size, 0, none⟩) ([4, 5, 6]) (3)) := L28.out.go (by omega) hB
  have hb37 : Hid (Below w.heap.size w v2) := hb29.out.trans (hB.mono hb29.out.size)
  have L38 : Hid (MidC (wo21.heap.size) (v2.heap.size) v2 (vaq) ([(3 : Int)]) (vcq)) := hVq.midc
  have L39 : Hid (MidC (wo21.heap.size) (v2.heap.size) v2 (gaq) ([4, 5, 6]) (gcq)) := hGq.midc
  clear hB hb29 B23 B24 B25 L26 L27 L28 hVq hGq
  clear L36
  go_wp2_with fail
  refine (niw_ok 1 3 false vap vcp [(3 : Int)] 1 rfl gap gcp [1, 2, 3] 3 rfl false vaq vcq [(3 : Int)] 1 rfl gaq gcq [4, 5, 6] 3 rfl _ (by unfold In64; decide) (by unfold In64; decide) (by decide) (by decide) (L34.out.is (by omega)) (L35.out.is (by omega)).1 (lit12 (by decide)) (by decide) (by decide) (L38.out.is (by omega)) (L39.out.is (by omega)).1 (lit12 (by decide)) [] [32] HNi (by show inE 1 3 false [(3 : Int)] [1, 2, 3] false [(3 : Int)] [4, 5, 6] = 0 ∧ inS [(3 : Int)] [(3 : Int)] = [] ∧ inD 1 3 false [(3 : Int)] [1, 2, 3] false [(3 : Int)] [4, 5, 6] = [32]; decide +kernel)).mono ?_
  rintro e v3 ⟨f1, g1, f2, g2, rfl, hX0, hY0, hB⟩
  have z40 : v2.heap.size ≤ v3.heap.size := hB.size
  have B41 : Hid (Abx v3 (w.heap.size) (.bool false) (.slice (some ⟨b1, o1, none⟩) sz1.length sc1) (.slice da1 dz1.length dc1)) := B31.out.go hB
  have B42 : Hid (Abx v3 (w.heap.size + 1) (.bool false) (.slice (some ⟨b2, o2, none⟩) sz2.length sc2) (.slice da2 dz2.length dc2)) := B32.out.go hB
  have B43 : Hid (Abx v3 (w.heap.size + 1 + 1) (.bool false) (.slice (some ⟨b3, o3, none⟩) sz3.length sc3) (.slice da3 dz3.length dc3)) := B33.out.go hB
  have L44 : Hid (MidC (wo5.heap.size) (v1.heap.size) v3 (vap) ([(3 : Int)]) (vcp)) := L34.out.go (by omega) hB
  have L45 : Hid (MidC (wo5.heap.size) (v1.heap.size) v3 (gap) ([1, 2, 3]) (gcp)) := L35.out.go (by omega) hB
  have L46 : Hid (MidC (wo21.heap.size) (v2.heap.size) v3 (vaq) ([(3 : Int)]) (vcq)) := L38.out.go (by omega) hB
  have L47 : Hid (MidC (wo21.heap.size) (v2.heap.size) v3 (gaq) ([4, 5, 6]) (gcq)) := L39.out.go (by omega) hB
  have hb48 : Hid (Below w.heap.size w v3) := hb37.out.trans (hB.mono hb37.out.size)
  have L49 : Hid (MidC (v2.heap.size) (v3.heap.size) v3 (f1) ([]) (g1)) := hX0.midc
  have L50 : Hid (MidC (v2.heap.size) (v3.heap.size) v3 (f2) ([32]) (g2)) := hY0.midc
  clear hB hb37 B31 B32 B33 L34 L35 L38 L39 hX0 hY0
  clear L44 L45 L46 L47
  obtain ⟨b51, ob51, rfl, _, _, _, _⟩ := L50.out.at (i := 0) (by decide)
  have n52 := Abx.new v3 (.bool false) (.slice f1 0 g1) (.slice (some ⟨b51, ob51, none⟩) 1 g2)
  have l53 := (n52).c0
  have l54 := (n52).c1
  have l55 := (n52).c2
  obtain ⟨_, _, l56e, _, _, l56, _⟩ := ((L50.out.al (by omega) (.cells #[.bool false, .slice f1 0 g1, .slice (some ⟨b51, ob51, none⟩) 1 g2] 25))).at (i := 0) (by decide)
  cases l56e
  try simp only [Nat.add_zero] at l56
  go_wp2_with fail
  obtain ⟨wo57, hwo57⟩ : ∃ wo57, wo57 = (v3.alloc (.cells #[.bool false, .slice f1 0 g1, .slice (some ⟨b51, ob51, none⟩) 1 g2] 25)) := ⟨_, rfl⟩
  rw [← hwo57]
  have z58 : v3.heap.size + 1 ≤ wo57.heap.size := by rw [hwo57]; simp only [World.size_alloc]; omega
  have B59 : Hid (Abx wo57 (w.heap.size) (.bool false) (.slice (some ⟨b1, o1, none⟩) sz1.length sc1) (.slice da1 dz1.length dc1)) := by rw [hwo57]; exact (B41.out.al (.cells #[.bool false, .slice f1 0 g1, .slice (some ⟨b51, ob51, none⟩) 1 g2] 25))
  have B60 : Hid (Abx wo57 (w.heap.size + 1) (.bool false) (.slice (some ⟨b2, o2, none⟩) sz2.length sc2) (.slice da2 dz2.length dc2)) := by rw [hwo57]; exact (B42.out.al (.cells #[.bool false, .slice f1 0 g1, .slice (some ⟨b51, ob51, none⟩) 1 g2] 25))
  have B61 : Hid (Abx wo57 (w.heap.size + 1 + 1) (.bool false) (.slice (some ⟨b3, o3, none⟩) sz3.length sc3) (.slice da3 dz3.length dc3)) := by rw [hwo57]; exact (B43.out.al (.cells #[.bool false, .slice f1 0 g1, .slice (some ⟨b51, ob51, none⟩) 1 g2] 25))
  have B62 : Hid (Abx wo57 (v3.heap.size) (.bool false) (.slice f1 0 g1) (.slice (some ⟨b51, ob51, none⟩) 1 g2)) := by rw [hwo57]; exact n52
  have L63 : Hid (MidC (v2.heap.size) (v3.heap.size) wo57 (f1) ([]) (g1)) := by rw [hwo57]; exact (L49.out.al (by omega) (.cells #[.bool false, .slice f1 0 g1, .slice (some ⟨b51, ob51, none⟩) 1 g2] 25))
  have L64 : Hid (MidC (v2.heap.size) (v3.heap.size) wo57 (some ⟨b51, ob51, none⟩) ([32]) (g2)) := by rw [hwo57]; exact (L50.out.al (by omega) (.cells #[.bool false, .slice f1 0 g1, .slice (some ⟨b51, ob51, none⟩) 1 g2] 25))
  have hb65 : Hid (Below w.heap.size w wo57) := by rw [hwo57]; exact (hb48.out.alloc (by omega) (.cells #[.bool false, .slice f1 0 g1, .slice (some ⟨b51, ob51, none⟩) 1 g2] 25))
  have zwo57 : w.heap.size ≤ wo57.heap.size := hb65.out.size
  clear hwo57 n52 l53 l54 l55 l56 hb48 B41 B42 B43 L49 L50
  clear L63 L64 B62
  have sx11 : wo57.cell? ⟨b1, o1 + 1, none⟩ = some (.int .i64 n1) := (hb65.out.cell (p := ⟨b1, o1 + 1, none⟩) HC1.out.1).trans HC1.out.2.2
  have sx20 : wo57.cell? ⟨b2, o2, none⟩ = some (.int .i64 m2) := (hb65.out.cell (p := ⟨b2, o2, none⟩) HC2.out.1).trans HC2.out.2.1
  have sx21 : wo57.cell? ⟨b2, o2 + 1, none⟩ = some (.int .i64 n2) := (hb65.out.cell (p := ⟨b2, o2 + 1, none⟩) HC2.out.1).trans HC2.out.2.2
  have sx30 : wo57.cell? ⟨b3, o3, none⟩ = some (.int .i64 m3) := (hb65.out.cell (p := ⟨b3, o3, none⟩) HC3.out.1).trans HC3.out.2.1
  have hb0 : Below wo57.heap.size wo57 wo57.drew := (Below.refl _ wo57).drew
  refine anyC_begin (fun w' => w'.cell? ⟨w.heap.size, 0, none⟩ = some (.bool false) ∧ w'.cell? ⟨w.heap.size, 1, none⟩ = some (.slice (some ⟨b1, o1, none⟩) sz1.length sc1) ∧ w'.cell? ⟨w.heap.size, 2, none⟩ = some (.slice da1 dz1.length dc1) ∧ w'.cell? ⟨w.heap.size + 1, 0, none⟩ = some (.bool false) ∧ w'.cell? ⟨w.heap.size + 1, 1, none⟩ = some (.slice (some ⟨b2, o2, none⟩) sz2.length sc2) ∧ w'.cell? ⟨w.heap.size + 1, 2, none⟩ = some (.slice da2 dz2.length dc2) ∧ w'.cell? ⟨w.heap.size + 1 + 1, 0, none⟩ = some (.bool false) ∧ w'.cell? ⟨w.heap.size + 1 + 1, 1, none⟩ = some (.slice (some ⟨b3, o3, none⟩) sz3.length sc3) ∧ w'.cell? ⟨w.heap.size + 1 + 1, 2, none⟩ = some (.slice da3 dz3.length dc3) ∧ w'.cell? ⟨b1, o1 + 1, none⟩ = some (.int .i64 n1) ∧ w'.cell? ⟨b2, o2, none⟩ = some (.int .i64 m2) ∧ w'.cell? ⟨b2, o2 + 1, none⟩ = some (.int .i64 n2) ∧ w'.cell? ⟨b3, o3, none⟩ = some (.int .i64 m3)) 41 #[false, false, false, false, false, false, false, false, false, false, false, false, false, false, false, false, false, false, false, false, false, false, false, false, false, false, false, false, false, false, false, false, false, false, false, false, false, false, false, false, false] (by kernel_rfl) rfl rfl ?_
  refine anyC_put 0 43 ?rv0 #[true, false, false, false, false, false, false, false, false, false, false, false, false, false, false, false, false, false, false, false, false, false, false, false, false, false, false, false, false, false, false, false, false, false, false, false, false, false, false, false, false] rfl rfl rfl (by kernel_rfl) (by kernel_rfl) (by kernel_rfl) (fun _ _ _ h => h) ?ry0 (⟨(B59.out.go hb0).c0, (B59.out.go hb0).c1, (B59.out.go hb0).c2, (B60.out.go hb0).c0, (B60.out.go hb0).c1, (B60.out.go hb0).c2, (B61.out.go hb0).c0, (B61.out.go hb0).c1, (B61.out.go hb0).c2, cell_to sx11 hb0, cell_to sx20 hb0, cell_to sx21 hb0, cell_to sx30 hb0⟩) ?rm0
  case ry0 => first | exact Or.inl ⟨by rfl, by intro w'; go_simp; first | done | rfl⟩
  case rm0 =>
  simp only [Act.put, List.setIfInBounds_toArray, List.set_cons_zero, List.set_cons_succ]
  refine anyC_put 1 44 ?rv1 #[true, true, false, false, false, false, false, false, false, false, false, false, false, false, false, false, false, false, false, false, false, false, false, false, false, false, false, false, false, false, false, false, false, false, false, false, false, false, false, false, false] rfl rfl rfl (by kernel_rfl) (by kernel_rfl) (by kernel_rfl) (fun _ _ _ h => h) ?ry1 (⟨(B59.out.go hb0).c0, (B59.out.go hb0).c1, (B59.out.go hb0).c2, (B60.out.go hb0).c0, (B60.out.go hb0).c1, (B60.out.go hb0).c2, (B61.out.go hb0).c0, (B61.out.go hb0).c1, (B61.out.go hb0).c2, cell_to sx11 hb0, cell_to sx20 hb0, cell_to sx21 hb0, cell_to sx30 hb0⟩) ?rm1
  case ry1 => first | exact Or.inl ⟨by rfl, by intro w'; go_simp; first | done | rfl⟩
  case rm1 =>
  simp only [Act.put, List.setIfInBounds_toArray, List.set_cons_zero, List.set_cons_succ]
  refine anyC_one 2 #[true, true, true, false, false, false, false, false, false, false, false, false, false, false, false, false, false, false, false, false, false, false, false, false, false, false, false, false, false, false, false, false, false, false, false, false, false, false, false, false, false] (by kernel_rfl) rfl rfl (fun K hK => ?_)
  go_simp
  go_wp2_with (go_at_call 9; refine (sring_any f g _).mono ?_; rintro e ysr ⟨rfl, hysr⟩; obtain rfl := hysr.symm; rw [srB_yes GS.out])
  refine hK.out _ _ (⟨(B59.out.go hb0).c0, (B59.out.go hb0).c1, (B59.out.go hb0).c2, (B60.out.go hb0).c0, (B60.out.go hb0).c1, (B60.out.go hb0).c2, (B61.out.go hb0).c0, (B61.out.go hb0).c1, (B61.out.go hb0).c2, cell_to sx11 hb0, cell_to sx20 hb0, cell_to sx21 hb0, cell_to sx30 hb0⟩) ?_
  clear hK K
  refine anyC_put 3 46 ?rv3 #[true, true, true, true, false, false, false, false, false, false, false, false, false, false, false, false, false, false, false, false, false, false, false, false, false, false, false, false, false, false, false, false, false, false, false, false, false, false, false, false, false] rfl rfl rfl (by kernel_rfl) (by kernel_rfl) (by kernel_rfl) (fun _ _ _ h => h) ?ry3 (⟨(B59.out.go hb0).c0, (B59.out.go hb0).c1, (B59.out.go hb0).c2, (B60.out.go hb0).c0, (B60.out.go hb0).c1, (B60.out.go hb0).c2, (B61.out.go hb0).c0, (B61.out.go hb0).c1, (B61.out.go hb0).c2, cell_to sx11 hb0, cell_to sx20 hb0, cell_to sx21 hb0, cell_to sx30 hb0⟩) ?rm3
  case ry3 => first | exact Or.inl ⟨by rfl, by intro w'; go_simp; first | done | rfl⟩
  case rm3 =>
  simp only [Act.put, List.setIfInBounds_toArray, List.set_cons_zero, List.set_cons_succ]
  refine anyC_put 4 47 ?rv4 #[true, true, true, true, true, false, false, false, false, false, false, false, false, false, false, false, false, false, false, false, false, false, false, false, false, false, false, false, false, false, false, false, false, false, false, false, false, false, false, false, false] rfl rfl rfl (by kernel_rfl) (by kernel_rfl) (by kernel_rfl) (fun _ _ _ h => h) ?ry4 (⟨(B59.out.go hb0).c0, (B59.out.go hb0).c1, (B59.out.go hb0).c2, (B60.out.go hb0).c0, (B60.out.go hb0).c1, (B60.out.go hb0).c2, (B61.out.go hb0).c0, (B61.out.go hb0).c1, (B61.out.go hb0).c2, cell_to sx11 hb0, cell_to sx20 hb0, cell_to sx21 hb0, cell_to sx30 hb0⟩) ?rm4
  case ry4 => first | exact Or.inl ⟨by rfl, by intro w'; go_simp; first | done | rfl⟩
  case rm4 =>
  simp only [Act.put, List.setIfInBounds_toArray, List.set_cons_zero, List.set_cons_succ]
  refine anyC_take 5 48 ?rv5 #[true, true, true, true, true, true, false, false, false, false, false, false, false, false, false, false, false, false, false, false, false, false, false, false, false, false, false, false, false, false, false, false, false, false, false, false, false, false, false, false, false] rfl rfl rfl (by kernel_rfl) (by kernel_rfl) (by kernel_rfl) (fun _ _ _ h => h) ?ry5 (⟨(B59.out.go hb0).c0, (B59.out.go hb0).c1, (B59.out.go hb0).c2, (B60.out.go hb0).c0, (B60.out.go hb0).c1, (B60.out.go hb0).c2, (B61.out.go hb0).c0, (B61.out.go hb0).c1, (B61.out.go hb0).c2, cell_to sx11 hb0, cell_to sx20 hb0, cell_to sx21 hb0, cell_to sx30 hb0⟩) ?rm5
  case ry5 => first | exact Or.inl ⟨by rfl, by intro w' hw'; (try dsimp only at hw'); go_simp; first | done | rfl⟩ | exact Or.inr ⟨by rfl, rfl⟩ | exact Or.inr ⟨by rfl, by rfl⟩
  case rm5 =>
  simp only [Act.put, List.setIfInBounds_toArray, List.set_cons_zero, List.set_cons_succ]
  refine anyC_one 6 #[true, true, true, true, true, true, true, false, false, false, false, false, false, false, false, false, false, false, false, false, false, false, false, false, false, false, false, false, false, false, false, false, false, false, false, false, false, false, false, false, false] (by kernel_rfl) rfl rfl (fun K hK => ?_)
  go_simp
  go_wp2_with (go_at_call 10; refine (grid_yes 16 (by decide) false (some ⟨b1, o1, none⟩) sc1 sz1 da1 dc1 dz1 _ ((HI1.out.1.1.below (hb65.out.trans (hb0.mono hb65.out.size))).mono (hb65.out.trans (hb0.mono hb65.out.size)).size) G1.out).mono ?_; rintro e y1 ⟨rfl, hBy1⟩)
  have hby1 : Below wo57.heap.size wo57 y1 := hb0.trans (hBy1.mono hb0.size)
  refine hK.out _ _ (⟨(B59.out.go hby1).c0, (B59.out.go hby1).c1, (B59.out.go hby1).c2, (B60.out.go hby1).c0, (B60.out.go hby1).c1, (B60.out.go hby1).c2, (B61.out.go hby1).c0, (B61.out.go hby1).c1, (B61.out.go hby1).c2, cell_to sx11 hby1, cell_to sx20 hby1, cell_to sx21 hby1, cell_to sx30 hby1⟩) ?_
  clear hK K
  refine anyC_put 7 50 ?rv7 #[true, true, true, true, true, true, true, true, false, false, false, false, false, false, false, false, false, false, false, false, false, false, false, false, false, false, false, false, false, false, false, false, false, false, false, false, false, false, false, false, false] rfl rfl rfl (by kernel_rfl) (by kernel_rfl) (by kernel_rfl) (fun _ _ _ h => h) ?ry7 (⟨(B59.out.go hby1).c0, (B59.out.go hby1).c1, (B59.out.go hby1).c2, (B60.out.go hby1).c0, (B60.out.go hby1).c1, (B60.out.go hby1).c2, (B61.out.go hby1).c0, (B61.out.go hby1).c1, (B61.out.go hby1).c2, cell_to sx11 hby1, cell_to sx20 hby1, cell_to sx21 hby1, cell_to sx30 hby1⟩) ?rm7
  case ry7 => first | exact Or.inl ⟨by rfl, by intro w'; go_simp; first | done | rfl⟩ | exact Or.inr ⟨by rfl, rfl⟩ | exact Or.inr ⟨by rfl, by rfl⟩
  case rm7 =>
  simp only [Act.put, List.setIfInBounds_toArray, List.set_cons_zero, List.set_cons_succ]
  refine anyC_put 8 51 ?rv8 #[true, true, true, true, true, true, true, true, true, false, false, false, false, false, false, false, false, false, false, false, false, false, false, false, false, false, false, false, false, false, false, false, false, false, false, false, false, false, false, false, false] rfl rfl rfl (by kernel_rfl) (by kernel_rfl) (by kernel_rfl) (fun _ _ _ h => h) ?ry8 (⟨(B59.out.go hby1).c0, (B59.out.go hby1).c1, (B59.out.go hby1).c2, (B60.out.go hby1).c0, (B60.out.go hby1).c1, (B60.out.go hby1).c2, (B61.out.go hby1).c0, (B61.out.go hby1).c1, (B61.out.go hby1).c2, cell_to sx11 hby1, cell_to sx20 hby1, cell_to sx21 hby1, cell_to sx30 hby1⟩) ?rm8
  case ry8 => first | exact Or.inl ⟨by rfl, by intro w'; go_simp; first | done | rfl⟩
  case rm8 =>
  simp only [Act.put, List.setIfInBounds_toArray, List.set_cons_zero, List.set_cons_succ]
  refine anyC_put 9 52 ?rv9 #[true, true, true, true, true, true, true, true, true, true, false, false, false, false, false, false, false, false, false, false, false, false, false, false, false, false, false, false, false, false, false, false, false, false, false, false, false, false, false, false, false] rfl rfl rfl (by kernel_rfl) (by kernel_rfl) (by kernel_rfl) (fun _ _ _ h => h) ?ry9 (⟨(B59.out.go hby1).c0, (B59.out.go hby1).c1, (B59.out.go hby1).c2, (B60.out.go hby1).c0, (B60.out.go hby1).c1, (B60.out.go hby1).c2, (B61.out.go hby1).c0, (B61.out.go hby1).c1, (B61.out.go hby1).c2, cell_to sx11 hby1, cell_to sx20 hby1, cell_to sx21 hby1, cell_to sx30 hby1⟩) ?rm9
  case ry9 => first | exact Or.inl ⟨by rfl, by intro w'; go_simp; first | done | rfl⟩
  case rm9 =>
  simp only [Act.put, List.setIfInBounds_toArray, List.set_cons_zero, List.set_cons_succ]
  refine anyC_take 10 53 ?rv10 #[true, true, true, true, true, true, true, true, true, true, true, false, false, false, false, false, false, false, false, false, false, false, false, false, false, false, false, false, false, false, false, false, false, false, false, false, false, false, false, false, false] rfl rfl rfl (by kernel_rfl) (by kernel_rfl) (by kernel_rfl) (fun _ _ _ h => h) ?ry10 (⟨(B59.out.go hby1).c0, (B59.out.go hby1).c1, (B59.out.go hby1).c2, (B60.out.go hby1).c0, (B60.out.go hby1).c1, (B60.out.go hby1).c2, (B61.out.go hby1).c0, (B61.out.go hby1).c1, (B61.out.go hby1).c2, cell_to sx11 hby1, cell_to sx20 hby1, cell_to sx21 hby1, cell_to sx30 hby1⟩) ?rm10
  case ry10 => first | exact Or.inl ⟨by rfl, by intro w' hw'; (try dsimp only at hw'); go_simp; first | done | rfl⟩ | exact Or.inr ⟨by rfl, rfl⟩ | exact Or.inr ⟨by rfl, by rfl⟩
  case rm10 =>
  simp only [Act.put, List.setIfInBounds_toArray, List.set_cons_zero, List.set_cons_succ]
  refine anyC_one 11 #[true, true, true, true, true, true, true, true, true, true, true, true, false, false, false, false, false, false, false, false, false, false, false, false, false, false, false, false, false, false, false, false, false, false, false, false, false, false, false, false, false] (by kernel_rfl) rfl rfl (fun K hK => ?_)
  go_simp
  go_wp2_with (go_at_call 10; refine (grid_yes 16 (by decide) false (some ⟨b2, o2, none⟩) sc2 sz2 da2 dc2 dz2 _ ((HI2.out.1.1.below (hb65.out.trans (hby1.mono hb65.out.size))).mono (hb65.out.trans (hby1.mono hb65.out.size)).size) G2.out).mono ?_; rintro e y2 ⟨rfl, hBy2⟩)
  have hby2 : Below wo57.heap.size wo57 y2 := hby1.trans (hBy2.mono hby1.size)
  refine hK.out _ _ (⟨(B59.out.go hby2).c0, (B59.out.go hby2).c1, (B59.out.go hby2).c2, (B60.out.go hby2).c0, (B60.out.go hby2).c1, (B60.out.go hby2).c2, (B61.out.go hby2).c0, (B61.out.go hby2).c1, (B61.out.go hby2).c2, cell_to sx11 hby2, cell_to sx20 hby2, cell_to sx21 hby2, cell_to sx30 hby2⟩) ?_
  clear hK K
  refine anyC_put 12 55 ?rv12 #[true, true, true, true, true, true, true, true, true, true, true, true, true, false, false, false, false, false, false, false, false, false, false, false, false, false, false, false, false, false, false, false, false, false, false, false, false, false, false, false, false] rfl rfl rfl (by kernel_rfl) (by kernel_rfl) (by kernel_rfl) (fun _ _ _ h => h) ?ry12 (⟨(B59.out.go hby2).c0, (B59.out.go hby2).c1, (B59.out.go hby2).c2, (B60.out.go hby2).c0, (B60.out.go hby2).c1, (B60.out.go hby2).c2, (B61.out.go hby2).c0, (B61.out.go hby2).c1, (B61.out.go hby2).c2, cell_to sx11 hby2, cell_to sx20 hby2, cell_to sx21 hby2, cell_to sx30 hby2⟩) ?rm12
  case ry12 => first | exact Or.inl ⟨by rfl, by intro w'; go_simp; first | done | rfl⟩ | exact Or.inr ⟨by rfl, rfl⟩ | exact Or.inr ⟨by rfl, by rfl⟩
  case rm12 =>
  simp only [Act.put, List.setIfInBounds_toArray, List.set_cons_zero, List.set_cons_succ]
  refine anyC_put 13 56 ?rv13 #[true, true, true, true, true, true, true, true, true, true, true, true, true, true, false, false, false, false, false, false, false, false, false, false, false, false, false, false, false, false, false, false, false, false, false, false, false, false, false, false, false] rfl rfl rfl (by kernel_rfl) (by kernel_rfl) (by kernel_rfl) (fun _ _ _ h => h) ?ry13 (⟨(B59.out.go hby2).c0, (B59.out.go hby2).c1, (B59.out.go hby2).c2, (B60.out.go hby2).c0, (B60.out.go hby2).c1, (B60.out.go hby2).c2, (B61.out.go hby2).c0, (B61.out.go hby2).c1, (B61.out.go hby2).c2, cell_to sx11 hby2, cell_to sx20 hby2, cell_to sx21 hby2, cell_to sx30 hby2⟩) ?rm13
  case ry13 => first | exact Or.inl ⟨by rfl, by intro w'; go_simp; first | done | rfl⟩
  case rm13 =>
  simp only [Act.put, List.setIfInBounds_toArray, List.set_cons_zero, List.set_cons_succ]
  refine anyC_put 14 57 ?rv14 #[true, true, true, true, true, true, true, true, true, true, true, true, true, true, true, false, false, false, false, false, false, false, false, false, false, false, false, false, false, false, false, false, false, false, false, false, false, false, false, false, false] rfl rfl rfl (by kernel_rfl) (by kernel_rfl) (by kernel_rfl) (fun _ _ _ h => h) ?ry14 (⟨(B59.out.go hby2).c0, (B59.out.go hby2).c1, (B59.out.go hby2).c2, (B60.out.go hby2).c0, (B60.out.go hby2).c1, (B60.out.go hby2).c2, (B61.out.go hby2).c0, (B61.out.go hby2).c1, (B61.out.go hby2).c2, cell_to sx11 hby2, cell_to sx20 hby2, cell_to sx21 hby2, cell_to sx30 hby2⟩) ?rm14
  case ry14 => first | exact Or.inl ⟨by rfl, by intro w'; go_simp; first | done | rfl⟩
  case rm14 =>
  simp only [Act.put, List.setIfInBounds_toArray, List.set_cons_zero, List.set_cons_succ]
  refine anyC_take 15 58 ?rv15 #[true, true, true, true, true, true, true, true, true, true, true, true, true, true, true, true, false, false, false, false, false, false, false, false, false, false, false, false, false, false, false, false, false, false, false, false, false, false, false, false, false] rfl rfl rfl (by kernel_rfl) (by kernel_rfl) (by kernel_rfl) (fun _ _ _ h => h) ?ry15 (⟨(B59.out.go hby2).c0, (B59.out.go hby2).c1, (B59.out.go hby2).c2, (B60.out.go hby2).c0, (B60.out.go hby2).c1, (B60.out.go hby2).c2, (B61.out.go hby2).c0, (B61.out.go hby2).c1, (B61.out.go hby2).c2, cell_to sx11 hby2, cell_to sx20 hby2, cell_to sx21 hby2, cell_to sx30 hby2⟩) ?rm15
  case ry15 => first | exact Or.inl ⟨by rfl, by intro w' hw'; (try dsimp only at hw'); go_simp; first | done | rfl⟩ | exact Or.inr ⟨by rfl, rfl⟩ | exact Or.inr ⟨by rfl, by rfl⟩
  case rm15 =>
  simp only [Act.put, List.setIfInBounds_toArray, List.set_cons_zero, List.set_cons_succ]
  refine anyC_one 16 #[true, true, true, true, true, true, true, true, true, true, true, true, true, true, true, true, true, false, false, false, false, false, false, false, false, false, false, false, false, false, false, false, false, false, false, false, false, false, false, false, false] (by kernel_rfl) rfl rfl (fun K hK => ?_)
  go_simp
  go_wp2_with (go_at_call 10; refine (grid_yes 16 (by decide) false (some ⟨b3, o3, none⟩) sc3 sz3 da3 dc3 dz3 _ ((HI3.out.1.1.below (hb65.out.trans (hby2.mono hb65.out.size))).mono (hb65.out.trans (hby2.mono hb65.out.size)).size) G3.out).mono ?_; rintro e y3 ⟨rfl, hBy3⟩)
  have hby3 : Below wo57.heap.size wo57 y3 := hby2.trans (hBy3.mono hby2.size)
  refine hK.out _ _ (⟨(B59.out.go hby3).c0, (B59.out.go hby3).c1, (B59.out.go hby3).c2, (B60.out.go hby3).c0, (B60.out.go hby3).c1, (B60.out.go hby3).c2, (B61.out.go hby3).c0, (B61.out.go hby3).c1, (B61.out.go hby3).c2, cell_to sx11 hby3, cell_to sx20 hby3, cell_to sx21 hby3, cell_to sx30 hby3⟩) ?_
  clear hK K
  refine anyC_put 17 60 ?rv17 #[true, true, true, true, true, true, true, true, true, true, true, true, true, true, true, true, true, true, false, false, false, false, false, false, false, false, false, false, false, false, false, false, false, false, false, false, false, false, false, false, false] rfl rfl rfl (by kernel_rfl) (by kernel_rfl) (by kernel_rfl) (fun _ _ _ h => h) ?ry17 (⟨(B59.out.go hby3).c0, (B59.out.go hby3).c1, (B59.out.go hby3).c2, (B60.out.go hby3).c0, (B60.out.go hby3).c1, (B60.out.go hby3).c2, (B61.out.go hby3).c0, (B61.out.go hby3).c1, (B61.out.go hby3).c2, cell_to sx11 hby3, cell_to sx20 hby3, cell_to sx21 hby3, cell_to sx30 hby3⟩) ?rm17
  case ry17 => first | exact Or.inl ⟨by rfl, by intro w'; go_simp; first | done | rfl⟩ | exact Or.inr ⟨by rfl, rfl⟩ | exact Or.inr ⟨by rfl, by rfl⟩
  case rm17 =>
  simp only [Act.put, List.setIfInBounds_toArray, List.set_cons_zero, List.set_cons_succ]
  refine anyC_put 18 61 ?rv18 #[true, true, true, true, true, true, true, true, true, true, true, true, true, true, true, true, true, true, true, false, false, false, false, false, false, false, false, false, false, false, false, false, false, false, false, false, false, false, false, false, false] rfl rfl rfl (by kernel_rfl) (by kernel_rfl) (by kernel_rfl) (fun _ _ _ h => h) ?ry18 (⟨(B59.out.go hby3).c0, (B59.out.go hby3).c1, (B59.out.go hby3).c2, (B60.out.go hby3).c0, (B60.out.go hby3).c1, (B60.out.go hby3).c2, (B61.out.go hby3).c0, (B61.out.go hby3).c1, (B61.out.go hby3).c2, cell_to sx11 hby3, cell_to sx20 hby3, cell_to sx21 hby3, cell_to sx30 hby3⟩) ?rm18
  case ry18 => first | exact Or.inl ⟨by rfl, by intro w'; go_simp; first | done | rfl⟩
  case rm18 =>
  simp only [Act.put, List.setIfInBounds_toArray, List.set_cons_zero, List.set_cons_succ]
  refine anyC_put 19 62 ?rv19 #[true, true, true, true, true, true, true, true, true, true, true, true, true, true, true, true, true, true, true, true, false, false, false, false, false, false, false, false, false, false, false, false, false, false, false, false, false, false, false, false, false] rfl rfl rfl (by kernel_rfl) (by kernel_rfl) (by kernel_rfl) (fun _ _ _ h => h) ?ry19 (⟨(B59.out.go hby3).c0, (B59.out.go hby3).c1, (B59.out.go hby3).c2, (B60.out.go hby3).c0, (B60.out.go hby3).c1, (B60.out.go hby3).c2, (B61.out.go hby3).c0, (B61.out.go hby3).c1, (B61.out.go hby3).c2, cell_to sx11 hby3, cell_to sx20 hby3, cell_to sx21 hby3, cell_to sx30 hby3⟩) ?rm19
  case ry19 => first | exact Or.inl ⟨by rfl, by intro w'; go_simp; first | done | rfl⟩
  case rm19 =>
  simp only [Act.put, List.setIfInBounds_toArray, List.set_cons_zero, List.set_cons_succ]
  refine anyC_put 20 63 ?rv20 #[true, true, true, true, true, true, true, true, true, true, true, true, true, true, true, true, true, true, true, true, true, false, false, false, false, false, false, false, false, false, false, false, false, false, false, false, false, false, false, false, false] rfl rfl rfl (by kernel_rfl) (by kernel_rfl) (by kernel_rfl) (fun _ _ _ h => h) ?ry20 (⟨(B59.out.go hby3).c0, (B59.out.go hby3).c1, (B59.out.go hby3).c2, (B60.out.go hby3).c0, (B60.out.go hby3).c1, (B60.out.go hby3).c2, (B61.out.go hby3).c0, (B61.out.go hby3).c1, (B61.out.go hby3).c2, cell_to sx11 hby3, cell_to sx20 hby3, cell_to sx21 hby3, cell_to sx30 hby3⟩) ?rm20
  case ry20 => first | exact Or.inl ⟨by rfl, by intro w'; go_simp; first | done | rfl⟩ | exact Or.inr ⟨by rfl, rfl⟩ | exact Or.inr ⟨by rfl, by rfl⟩
  case rm20 =>
  simp only [Act.put, List.setIfInBounds_toArray, List.set_cons_zero, List.set_cons_succ]
  refine anyC_take 21 64 ?rv21 #[true, true, true, true, true, true, true, true, true, true, true, true, true, true, true, true, true, true, true, true, true, true, false, false, false, false, false, false, false, false, false, false, false, false, false, false, false, false, false, false, false] rfl rfl rfl (by kernel_rfl) (by kernel_rfl) (by kernel_rfl) (fun _ _ _ h => h) ?ry21 (⟨(B59.out.go hby3).c0, (B59.out.go hby3).c1, (B59.out.go hby3).c2, (B60.out.go hby3).c0, (B60.out.go hby3).c1, (B60.out.go hby3).c2, (B61.out.go hby3).c0, (B61.out.go hby3).c1, (B61.out.go hby3).c2, cell_to sx11 hby3, cell_to sx20 hby3, cell_to sx21 hby3, cell_to sx30 hby3⟩) ?rm21
  case ry21 => first | exact Or.inl ⟨by rfl, by intro w' hw'; (try dsimp only at hw'); go_simp; first | done | rfl⟩ | exact Or.inr ⟨by rfl, rfl⟩ | exact Or.inr ⟨by rfl, by rfl⟩
  case rm21 =>
  simp only [Act.put, List.setIfInBounds_toArray, List.set_cons_zero, List.set_cons_succ]
  refine anyC_put 22 65 ?rv22 #[true, true, true, true, true, true, true, true, true, true, true, true, true, true, true, true, true, true, true, true, true, true, true, false, false, false, false, false, false, false, false, false, false, false, false, false, false, false, false, false, false] rfl rfl rfl (by kernel_rfl) (by kernel_rfl) (by kernel_rfl) (fun _ _ _ h => h) ?ry22 (⟨(B59.out.go hby3).c0, (B59.out.go hby3).c1, (B59.out.go hby3).c2, (B60.out.go hby3).c0, (B60.out.go hby3).c1, (B60.out.go hby3).c2, (B61.out.go hby3).c0, (B61.out.go hby3).c1, (B61.out.go hby3).c2, cell_to sx11 hby3, cell_to sx20 hby3, cell_to sx21 hby3, cell_to sx30 hby3⟩) ?rm22
  case ry22 => first | exact Or.inl ⟨by rfl, by intro w'; go_simp; first | done | rfl⟩ | exact Or.inr ⟨by rfl, rfl⟩ | exact Or.inr ⟨by rfl, by rfl⟩
  case rm22 =>
  simp only [Act.put, List.setIfInBounds_toArray, List.set_cons_zero, List.set_cons_succ]
  refine anyC_take 23 66 ?rv23 #[true, true, true, true, true, true, true, true, true, true, true, true, true, true, true, true, true, true, true, true, true, true, true, true, false, false, false, false, false, false, false, false, false, false, false, false, false, false, false, false, false] rfl rfl rfl (by kernel_rfl) (by kernel_rfl) (by kernel_rfl) (fun _ _ _ h => h) ?ry23 (⟨(B59.out.go hby3).c0, (B59.out.go hby3).c1, (B59.out.go hby3).c2, (B60.out.go hby3).c0, (B60.out.go hby3).c1, (B60.out.go hby3).c2, (B61.out.go hby3).c0, (B61.out.go hby3).c1, (B61.out.go hby3).c2, cell_to sx11 hby3, cell_to sx20 hby3, cell_to sx21 hby3, cell_to sx30 hby3⟩) ?rm23
  case ry23 => first | exact Or.inl ⟨by rfl, by intro w' hw'; (try dsimp only at hw'); go_simp; first | done | rfl⟩ | exact Or.inr ⟨by rfl, rfl⟩ | exact Or.inr ⟨by rfl, by rfl⟩
  case rm23 =>
  simp only [Act.put, List.setIfInBounds_toArray, List.set_cons_zero, List.set_cons_succ]
  refine anyC_put 24 67 ?rv24 #[true, true, true, true, true, true, true, true, true, true, true, true, true, true, true, true, true, true, true, true, true, true, true, true, true, false, false, false, false, false, false, false, false, false, false, false, false, false, false, false, false] rfl rfl rfl (by kernel_rfl) (by kernel_rfl) (by kernel_rfl) (fun _ _ _ h => h) ?ry24 (⟨(B59.out.go hby3).c0, (B59.out.go hby3).c1, (B59.out.go hby3).c2, (B60.out.go hby3).c0, (B60.out.go hby3).c1, (B60.out.go hby3).c2, (B61.out.go hby3).c0, (B61.out.go hby3).c1, (B61.out.go hby3).c2, cell_to sx11 hby3, cell_to sx20 hby3, cell_to sx21 hby3, cell_to sx30 hby3⟩) ?rm24
  case ry24 => first | exact Or.inl ⟨by rfl, by intro w'; go_simp; first | done | rfl⟩ | exact Or.inr ⟨by rfl, rfl⟩ | exact Or.inr ⟨by rfl, by rfl⟩
  case rm24 =>
  simp only [Act.put, List.setIfInBounds_toArray, List.set_cons_zero, List.set_cons_succ]
  refine anyC_take 25 68 ?rv25 #[true, true, true, true, true, true, true, true, true, true, true, true, true, true, true, true, true, true, true, true, true, true, true, true, true, true, false, false, false, false, false, false, false, false, false, false, false, false, false, false, false] rfl rfl rfl (by kernel_rfl) (by kernel_rfl) (by kernel_rfl) (fun _ _ _ h => h) ?ry25 (⟨(B59.out.go hby3).c0, (B59.out.go hby3).c1, (B59.out.go hby3).c2, (B60.out.go hby3).c0, (B60.out.go hby3).c1, (B60.out.go hby3).c2, (B61.out.go hby3).c0, (B61.out.go hby3).c1, (B61.out.go hby3).c2, cell_to sx11 hby3, cell_to sx20 hby3, cell_to sx21 hby3, cell_to sx30 hby3⟩) ?rm25
  case ry25 => first | exact Or.inl ⟨by rfl, by intro w' hw'; (try dsimp only at hw'); go_simp; first | done | rfl⟩ | exact Or.inr ⟨by rfl, rfl⟩ | exact Or.inr ⟨by rfl, by rfl⟩
  case rm25 =>
  simp only [Act.put, List.setIfInBounds_toArray, List.set_cons_zero, List.set_cons_succ]
  refine anyC_put 26 69 ?rv26 #[true, true, true, true, true, true, true, true, true, true, true, true, true, true, true, true, true, true, true, true, true, true, true, true, true, true, true, false, false, false, false, false, false, false, false, false, false, false, false, false, false] rfl rfl rfl (by kernel_rfl) (by kernel_rfl) (by kernel_rfl) (fun _ _ _ h => h) ?ry26 (⟨(B59.out.go hby3).c0, (B59.out.go hby3).c1, (B59.out.go hby3).c2, (B60.out.go hby3).c0, (B60.out.go hby3).c1, (B60.out.go hby3).c2, (B61.out.go hby3).c0, (B61.out.go hby3).c1, (B61.out.go hby3).c2, cell_to sx11 hby3, cell_to sx20 hby3, cell_to sx21 hby3, cell_to sx30 hby3⟩) ?rm26
  case ry26 => first | exact Or.inl ⟨by rfl, by intro w'; go_simp; first | done | rfl⟩ | exact Or.inr ⟨by rfl, rfl⟩ | exact Or.inr ⟨by rfl, by rfl⟩
  case rm26 =>
  simp only [Act.put, List.setIfInBounds_toArray, List.set_cons_zero, List.set_cons_succ]
  refine anyC_take 27 70 ?rv27 #[true, true, true, true, true, true, true, true, true, true, true, true, true, true, true, true, true, true, true, true, true, true, true, true, true, true, true, true, false, false, false, false, false, false, false, false, false, false, false, false, false] rfl rfl rfl (by kernel_rfl) (by kernel_rfl) (by kernel_rfl) (fun _ _ _ h => h) ?ry27 (⟨(B59.out.go hby3).c0, (B59.out.go hby3).c1, (B59.out.go hby3).c2, (B60.out.go hby3).c0, (B60.out.go hby3).c1, (B60.out.go hby3).c2, (B61.out.go hby3).c0, (B61.out.go hby3).c1, (B61.out.go hby3).c2, cell_to sx11 hby3, cell_to sx20 hby3, cell_to sx21 hby3, cell_to sx30 hby3⟩) ?rm27
  case ry27 => first | exact Or.inl ⟨by rfl, by intro w' hw'; (try dsimp only at hw'); go_simp; first | done | rfl⟩ | exact Or.inr ⟨by rfl, rfl⟩ | exact Or.inr ⟨by rfl, by rfl⟩
  case rm27 =>
  simp only [Act.put, List.setIfInBounds_toArray, List.set_cons_zero, List.set_cons_succ]
  refine anyC_put 28 71 ?rv28 #[true, true, true, true, true, true, true, true, true, true, true, true, true, true, true, true, true, true, true, true, true, true, true, true, true, true, true, true, true, false, false, false, false, false, false, false, false, false, false, false, false] rfl rfl rfl (by kernel_rfl) (by kernel_rfl) (by kernel_rfl) (fun _ _ _ h => h) ?ry28 (⟨(B59.out.go hby3).c0, (B59.out.go hby3).c1, (B59.out.go hby3).c2, (B60.out.go hby3).c0, (B60.out.go hby3).c1, (B60.out.go hby3).c2, (B61.out.go hby3).c0, (B61.out.go hby3).c1, (B61.out.go hby3).c2, cell_to sx11 hby3, cell_to sx20 hby3, cell_to sx21 hby3, cell_to sx30 hby3⟩) ?rm28
  case ry28 => first | exact Or.inl ⟨by rfl, by intro w'; go_simp; first | done | rfl⟩ | exact Or.inr ⟨by rfl, rfl⟩ | exact Or.inr ⟨by rfl, by rfl⟩
  case rm28 =>
  simp only [Act.put, List.setIfInBounds_toArray, List.set_cons_zero, List.set_cons_succ]
  refine anyC_put 29 72 ?rv29 #[true, true, true, true, true, true, true, true, true, true, true, true, true, true, true, true, true, true, true, true, true, true, true, true, true, true, true, true, true, true, false, false, false, false, false, false, false, false, false, false, false] rfl rfl rfl (by kernel_rfl) (by kernel_rfl) (by kernel_rfl) (fun _ _ _ h => h) ?ry29 (⟨(B59.out.go hby3).c0, (B59.out.go hby3).c1, (B59.out.go hby3).c2, (B60.out.go hby3).c0, (B60.out.go hby3).c1, (B60.out.go hby3).c2, (B61.out.go hby3).c0, (B61.out.go hby3).c1, (B61.out.go hby3).c2, cell_to sx11 hby3, cell_to sx20 hby3, cell_to sx21 hby3, cell_to sx30 hby3⟩) ?rm29
  case ry29 => first | exact Or.inl ⟨by rfl, by intro w'; go_simp; first | done | rfl⟩
  case rm29 =>
  simp only [Act.put, List.setIfInBounds_toArray, List.set_cons_zero, List.set_cons_succ]
  refine anyC_put 30 73 ?rv30 #[true, true, true, true, true, true, true, true, true, true, true, true, true, true, true, true, true, true, true, true, true, true, true, true, true, true, true, true, true, true, true, false, false, false, false, false, false, false, false, false, false] rfl rfl rfl (by kernel_rfl) (by kernel_rfl) (by kernel_rfl) (fun _ _ _ h => h) ?ry30 (⟨(B59.out.go hby3).c0, (B59.out.go hby3).c1, (B59.out.go hby3).c2, (B60.out.go hby3).c0, (B60.out.go hby3).c1, (B60.out.go hby3).c2, (B61.out.go hby3).c0, (B61.out.go hby3).c1, (B61.out.go hby3).c2, cell_to sx11 hby3, cell_to sx20 hby3, cell_to sx21 hby3, cell_to sx30 hby3⟩) ?rm30
  case ry30 => first | exact Or.inl ⟨by rfl, by intro w'; go_simp; first | done | rfl⟩
  case rm30 =>
  simp only [Act.put, List.setIfInBounds_toArray, List.set_cons_zero, List.set_cons_succ]
  refine anyC_put 31 74 ?rv31 #[true, true, true, true, true, true, true, true, true, true, true, true, true, true, true, true, true, true, true, true, true, true, true, true, true, true, true, true, true, true, true, true, false, false, false, false, false, false, false, false, false] rfl rfl rfl (by kernel_rfl) (by kernel_rfl) (by kernel_rfl) (fun _ _ _ h => h) ?ry31 (⟨(B59.out.go hby3).c0, (B59.out.go hby3).c1, (B59.out.go hby3).c2, (B60.out.go hby3).c0, (B60.out.go hby3).c1, (B60.out.go hby3).c2, (B61.out.go hby3).c0, (B61.out.go hby3).c1, (B61.out.go hby3).c2, cell_to sx11 hby3, cell_to sx20 hby3, cell_to sx21 hby3, cell_to sx30 hby3⟩) ?rm31
  case ry31 => first | exact Or.inl ⟨by rfl, by intro w'; go_simp; first | done | rfl⟩ | exact Or.inr ⟨by rfl, rfl⟩ | exact Or.inr ⟨by rfl, by rfl⟩
  case rm31 =>
  simp only [Act.put, List.setIfInBounds_toArray, List.set_cons_zero, List.set_cons_succ]
  refine anyC_take 32 75 ?rv32 #[true, true, true, true, true, true, true, true, true, true, true, true, true, true, true, true, true, true, true, true, true, true, true, true, true, true, true, true, true, true, true, true, true, false, false, false, false, false, false, false, false] rfl rfl rfl (by kernel_rfl) (by kernel_rfl) (by kernel_rfl) (fun _ _ _ h => h) ?ry32 (⟨(B59.out.go hby3).c0, (B59.out.go hby3).c1, (B59.out.go hby3).c2, (B60.out.go hby3).c0, (B60.out.go hby3).c1, (B60.out.go hby3).c2, (B61.out.go hby3).c0, (B61.out.go hby3).c1, (B61.out.go hby3).c2, cell_to sx11 hby3, cell_to sx20 hby3, cell_to sx21 hby3, cell_to sx30 hby3⟩) ?rm32
  case ry32 => first | exact Or.inl ⟨by rfl, by intro w' hw'; (try dsimp only at hw'); go_simp; first | done | rfl⟩ | exact Or.inr ⟨by rfl, rfl⟩ | exact Or.inr ⟨by rfl, by rfl⟩
  case rm32 =>
  simp only [Act.put, List.setIfInBounds_toArray, List.set_cons_zero, List.set_cons_succ]
  refine anyC_put 33 76 ?rv33 #[true, true, true, true, true, true, true, true, true, true, true, true, true, true, true, true, true, true, true, true, true, true, true, true, true, true, true, true, true, true, true, true, true, true, false, false, false, false, false, false, false] rfl rfl rfl (by kernel_rfl) (by kernel_rfl) (by kernel_rfl) (fun _ _ _ h => h) ?ry33 (⟨(B59.out.go hby3).c0, (B59.out.go hby3).c1, (B59.out.go hby3).c2, (B60.out.go hby3).c0, (B60.out.go hby3).c1, (B60.out.go hby3).c2, (B61.out.go hby3).c0, (B61.out.go hby3).c1, (B61.out.go hby3).c2, cell_to sx11 hby3, cell_to sx20 hby3, cell_to sx21 hby3, cell_to sx30 hby3⟩) ?rm33
  case ry33 => first | exact Or.inl ⟨by rfl, by intro w'; go_simp; first | done | rfl⟩ | exact Or.inr ⟨by rfl, rfl⟩ | exact Or.inr ⟨by rfl, by rfl⟩
  case rm33 =>
  simp only [Act.put, List.setIfInBounds_toArray, List.set_cons_zero, List.set_cons_succ]
  refine anyC_take 34 77 ?rv34 #[true, true, true, true, true, true, true, true, true, true, true, true, true, true, true, true, true, true, true, true, true, true, true, true, true, true, true, true, true, true, true, true, true, true, true, false, false, false, false, false, false] rfl rfl rfl (by kernel_rfl) (by kernel_rfl) (by kernel_rfl) (fun _ _ _ h => h) ?ry34 (⟨(B59.out.go hby3).c0, (B59.out.go hby3).c1, (B59.out.go hby3).c2, (B60.out.go hby3).c0, (B60.out.go hby3).c1, (B60.out.go hby3).c2, (B61.out.go hby3).c0, (B61.out.go hby3).c1, (B61.out.go hby3).c2, cell_to sx11 hby3, cell_to sx20 hby3, cell_to sx21 hby3, cell_to sx30 hby3⟩) ?rm34
  case ry34 => first | exact Or.inl ⟨by rfl, by intro w' hw'; (try dsimp only at hw'); go_simp; first | done | rfl⟩ | exact Or.inr ⟨by rfl, rfl⟩ | exact Or.inr ⟨by rfl, by rfl⟩
  case rm34 =>
  simp only [Act.put, List.setIfInBounds_toArray, List.set_cons_zero, List.set_cons_succ]
  refine anyC_put 35 78 ?rv35 #[true, true, true, true, true, true, true, true, true, true, true, true, true, true, true, true, true, true, true, true, true, true, true, true, true, true, true, true, true, true, true, true, true, true, true, true, false, false, false, false, false] rfl rfl rfl (by kernel_rfl) (by kernel_rfl) (by kernel_rfl) (fun _ _ _ h => h) ?ry35 (⟨(B59.out.go hby3).c0, (B59.out.go hby3).c1, (B59.out.go hby3).c2, (B60.out.go hby3).c0, (B60.out.go hby3).c1, (B60.out.go hby3).c2, (B61.out.go hby3).c0, (B61.out.go hby3).c1, (B61.out.go hby3).c2, cell_to sx11 hby3, cell_to sx20 hby3, cell_to sx21 hby3, cell_to sx30 hby3⟩) ?rm35
  case ry35 => first | exact Or.inl ⟨by rfl, by intro w'; go_simp; first | done | rfl⟩ | exact Or.inr ⟨by rfl, rfl⟩ | exact Or.inr ⟨by rfl, by rfl⟩
  case rm35 =>
  simp only [Act.put, List.setIfInBounds_toArray, List.set_cons_zero, List.set_cons_succ]
  refine anyC_take 36 79 ?rv36 #[true, true, true, true, true, true, true, true, true, true, true, true, true, true, true, true, true, true, true, true, true, true, true, true, true, true, true, true, true, true, true, true, true, true, true, true, true, false, false, false, false] rfl rfl rfl (by kernel_rfl) (by kernel_rfl) (by kernel_rfl) (fun _ _ _ h => h) ?ry36 (⟨(B59.out.go hby3).c0, (B59.out.go hby3).c1, (B59.out.go hby3).c2, (B60.out.go hby3).c0, (B60.out.go hby3).c1, (B60.out.go hby3).c2, (B61.out.go hby3).c0, (B61.out.go hby3).c1, (B61.out.go hby3).c2, cell_to sx11 hby3, cell_to sx20 hby3, cell_to sx21 hby3, cell_to sx30 hby3⟩) ?rm36
  case ry36 => first | exact Or.inl ⟨by rfl, by intro w' hw'; (try dsimp only at hw'); go_simp; first | done | rfl⟩ | exact Or.inr ⟨by rfl, rfl⟩ | exact Or.inr ⟨by rfl, by rfl⟩
  case rm36 =>
  simp only [Act.put, List.setIfInBounds_toArray, List.set_cons_zero, List.set_cons_succ]
  refine anyC_put 37 80 ?rv37 #[true, true, true, true, true, true, true, true, true, true, true, true, true, true, true, true, true, true, true, true, true, true, true, true, true, true, true, true, true, true, true, true, true, true, true, true, true, true, false, false, false] rfl rfl rfl (by kernel_rfl) (by kernel_rfl) (by kernel_rfl) (fun _ _ _ h => h) ?ry37 (⟨(B59.out.go hby3).c0, (B59.out.go hby3).c1, (B59.out.go hby3).c2, (B60.out.go hby3).c0, (B60.out.go hby3).c1, (B60.out.go hby3).c2, (B61.out.go hby3).c0, (B61.out.go hby3).c1, (B61.out.go hby3).c2, cell_to sx11 hby3, cell_to sx20 hby3, cell_to sx21 hby3, cell_to sx30 hby3⟩) ?rm37
  case ry37 => first | exact Or.inl ⟨by rfl, by intro w'; go_simp; first | done | rfl⟩ | exact Or.inr ⟨by rfl, rfl⟩ | exact Or.inr ⟨by rfl, by rfl⟩
  case rm37 =>
  simp only [Act.put, List.setIfInBounds_toArray, List.set_cons_zero, List.set_cons_succ]
  refine anyC_take 38 81 ?rv38 #[true, true, true, true, true, true, true, true, true, true, true, true, true, true, true, true, true, true, true, true, true, true, true, true, true, true, true, true, true, true, true, true, true, true, true, true, true, true, true, false, false] rfl rfl rfl (by kernel_rfl) (by kernel_rfl) (by kernel_rfl) (fun _ _ _ h => h) ?ry38 (⟨(B59.out.go hby3).c0, (B59.out.go hby3).c1, (B59.out.go hby3).c2, (B60.out.go hby3).c0, (B60.out.go hby3).c1, (B60.out.go hby3).c2, (B61.out.go hby3).c0, (B61.out.go hby3).c1, (B61.out.go hby3).c2, cell_to sx11 hby3, cell_to sx20 hby3, cell_to sx21 hby3, cell_to sx30 hby3⟩) ?rm38
  case ry38 => first | exact Or.inl ⟨by rfl, by intro w' hw'; (try dsimp only at hw'); go_simp; first | done | rfl⟩ | exact Or.inr ⟨by rfl, rfl⟩ | exact Or.inr ⟨by rfl, by rfl⟩
  case rm38 =>
  simp only [Act.put, List.setIfInBounds_toArray, List.set_cons_zero, List.set_cons_succ]
  refine anyC_put 39 82 ?rv39 #[true, true, true, true, true, true, true, true, true, true, true, true, true, true, true, true, true, true, true, true, true, true, true, true, true, true, true, true, true, true, true, true, true, true, true, true, true, true, true, true, false] rfl rfl rfl (by kernel_rfl) (by kernel_rfl) (by kernel_rfl) (fun _ _ _ h => h) ?ry39 (⟨(B59.out.go hby3).c0, (B59.out.go hby3).c1, (B59.out.go hby3).c2, (B60.out.go hby3).c0, (B60.out.go hby3).c1, (B60.out.go hby3).c2, (B61.out.go hby3).c0, (B61.out.go hby3).c1, (B61.out.go hby3).c2, cell_to sx11 hby3, cell_to sx20 hby3, cell_to sx21 hby3, cell_to sx30 hby3⟩) ?rm39
  case ry39 => first | exact Or.inl ⟨by rfl, by intro w'; go_simp; first | done | rfl⟩ | exact Or.inr ⟨by rfl, rfl⟩ | exact Or.inr ⟨by rfl, by rfl⟩
  case rm39 =>
  simp only [Act.put, List.setIfInBounds_toArray, List.set_cons_zero, List.set_cons_succ]
  refine anyC_put 40 83 ?rv40 #[true, true, true, true, true, true, true, true, true, true, true, true, true, true, true, true, true, true, true, true, true, true, true, true, true, true, true, true, true, true, true, true, true, true, true, true, true, true, true, true, true] rfl rfl rfl (by kernel_rfl) (by kernel_rfl) (by kernel_rfl) (fun _ _ _ h => h) ?ry40 (⟨(B59.out.go hby3).c0, (B59.out.go hby3).c1, (B59.out.go hby3).c2, (B60.out.go hby3).c0, (B60.out.go hby3).c1, (B60.out.go hby3).c2, (B61.out.go hby3).c0, (B61.out.go hby3).c1, (B61.out.go hby3).c2, cell_to sx11 hby3, cell_to sx20 hby3, cell_to sx21 hby3, cell_to sx30 hby3⟩) ?rm40
  case ry40 => first | exact Or.inl ⟨by rfl, by intro w'; go_simp; first | done | rfl⟩
  case rm40 =>
  simp only [Act.put, List.setIfInBounds_toArray, List.set_cons_zero, List.set_cons_succ]
  refine anyC_done (by kernel_rfl) ?_
  have hB := hby3
  have z66 : wo57.heap.size ≤ y3.heap.size := hB.size
  have B67 : Hid (Abx y3 (w.heap.size) (.bool false) (.slice (some ⟨b1, o1, none⟩) sz1.length sc1) (.slice da1 dz1.length dc1)) := B59.out.go hB
  have B68 : Hid (Abx y3 (w.heap.size + 1) (.bool false) (.slice (some ⟨b2, o2, none⟩) sz2.length sc2) (.slice da2 dz2.length dc2)) := B60.out.go hB
  have B69 : Hid (Abx y3 (w.heap.size + 1 + 1) (.bool false) (.slice (some ⟨b3, o3, none⟩) sz3.length sc3) (.slice da3 dz3.length dc3)) := B61.out.go hB
  have hb70 : Hid (Below w.heap.size w y3) := hb65.out.trans (hB.mono hb65.out.size)
  clear hB hb65 B59 B60 B61
  go_wp2_with fail
  go_ret
  exact ⟨rfl, hb70.out⟩
set_option maxRecDepth 100000 in
set_option maxHeartbeats 4000000 in
theorem chain_bc (HNi : CNi) (f g : Int) (hf : In64 f) (hg : In64 g) (c1 : Bool) (sa1 : Option Addr) (sc1 : Nat) (sz1 : List Int) (da1 : Option Addr) (dc1 : Nat) (dz1 : List Int) (c2 : Bool) (sa2 : Option Addr) (sc2 : Nat) (sz2 : List Int) (da2 : Option Addr) (dc2 : Nat) (dz2 : List Int) (c3 : Bool) (sa3 : Option Addr) (sc3 : Nat) (sz3 : List Int) (da3 : Option Addr) (dc3 : Nat) (dz3 : List Int) (w : World) (w8 : IsArrD w sa1 sz1 sc1 da1 dz1 dc1) (w9 : IsArrD w sa2 sz2 sc2 da2 dz2 dc2) (w10 : IsArrD w sa3 sz3 sc3 da3 dz3 dc3) (GS : Hid (Srg f g)) (G1 : Hid (GrdP 16 c1 sz1 dz1)) (G2 : Hid (GrdP 16 c2 sz2 dz2)) (G3 : Hid (GrdP 16 c3 sz3 dz3)) (E1 : Hid (nth sz1 1 = nth sz2 0)) (E2 : Hid (¬ nth sz2 1 = nth sz3 0)) :
    Calls Try.prog 3 #[.int .i64 f, .int .i64 g, .agg #[.bool c1, .slice sa1 sz1.length sc1, .slice da1 dz1.length dc1], .agg #[.bool c2, .slice sa2 sz2.length sc2, .slice da2 dz2.length dc2], .agg #[.bool c3, .slice sa3 sz3.length sc3, .slice da3 dz3.length dc3]] w fun e w' => e = .returned (.bool true) ∧ Below w.heap.size w w' := by
  obtain ⟨b1, o1, rfl, hq1, hc1⟩ := w8.2.2.1.1.at (q := 0) (by rw [G1.out.2.1]; decide)
  have hcf1 := G1.out.1
  subst hcf1
  obtain ⟨m1, hm1⟩ : ∃ m, m = nth sz1 0 := ⟨_, rfl⟩
  obtain ⟨n1, hn1⟩ : ∃ n, n = nth sz1 1 := ⟨_, rfl⟩
  have HC1 : Hid (b1 < w.heap.size ∧ w.cell? ⟨b1, o1, none⟩ = some (.int .i64 m1) ∧ w.cell? ⟨b1, o1 + 1, none⟩ = some (.int .i64 n1)) := ⟨hq1, by have := hc1 0 (by rw [G1.out.2.1]; decide); rw [Nat.add_zero, ← hm1] at this; exact this, by rw [hn1]; exact hc1 1 (by rw [G1.out.2.1]; decide)⟩
  have HM1 : Hid (m1 = nth sz1 0 ∧ n1 = nth sz1 1) := ⟨hm1, hn1⟩
  have hz1 : sz1.length = 2 := G1.out.2.1
  have HZ1 : Hid (sz1.length = 2) := hz1
  have lz1 : 1 < sz1.length := by omega
  have ly1 : 0 < sz1.length := by omega
  have lw1 : (1 : Int) < (sz1.length : Int) := by omega
  have lv1 : (0 : Int) < (sz1.length : Int) := by omega
  clear hq1 hc1 hm1 hn1 hz1
  obtain ⟨b2, o2, rfl, hq2, hc2⟩ := w9.2.2.1.1.at (q := 0) (by rw [G2.out.2.1]; decide)
  have hcf2 := G2.out.1
  subst hcf2
  obtain ⟨m2, hm2⟩ : ∃ m, m = nth sz2 0 := ⟨_, rfl⟩
  obtain ⟨n2, hn2⟩ : ∃ n, n = nth sz2 1 := ⟨_, rfl⟩
  have HC2 : Hid (b2 < w.heap.size ∧ w.cell? ⟨b2, o2, none⟩ = some (.int .i64 m2) ∧ w.cell? ⟨b2, o2 + 1, none⟩ = some (.int .i64 n2)) := ⟨hq2, by have := hc2 0 (by rw [G2.out.2.1]; decide); rw [Nat.add_zero, ← hm2] at this; exact this, by rw [hn2]; exact hc2 1 (by rw [G2.out.2.1]; decide)⟩
  have HM2 : Hid (m2 = nth sz2 0 ∧ n2 = nth sz2 1) := ⟨hm2, hn2⟩
  have hz2 : sz2.length = 2 := G2.out.2.1
  have HZ2 : Hid (sz2.length = 2) := hz2
  have lz2 : 1 < sz2.length := by omega
  have ly2 : 0 < sz2.length := by omega
  have lw2 : (1 : Int) < (sz2.length : Int) := by omega
  have lv2 : (0 : Int) < (sz2.length : Int) := by omega
  clear hq2 hc2 hm2 hn2 hz2
  obtain ⟨b3, o3, rfl, hq3, hc3⟩ := w10.2.2.1.1.at (q := 0) (by rw [G3.out.2.1]; decide)
  have hcf3 := G3.out.1
  subst hcf3
  obtain ⟨m3, hm3⟩ : ∃ m, m = nth sz3 0 := ⟨_, rfl⟩
  obtain ⟨n3, hn3⟩ : ∃ n, n = nth sz3 1 := ⟨_, rfl⟩
  have HC3 : Hid (b3 < w.heap.size ∧ w.cell? ⟨b3, o3, none⟩ = some (.int .i64 m3) ∧ w.cell? ⟨b3, o3 + 1, none⟩ = some (.int .i64 n3)) := ⟨hq3, by have := hc3 0 (by rw [G3.out.2.1]; decide); rw [Nat.add_zero, ← hm3] at this; exact this, by rw [hn3]; exact hc3 1 (by rw [G3.out.2.1]; decide)⟩
  have HM3 : Hid (m3 = nth sz3 0 ∧ n3 = nth sz3 1) := ⟨hm3, hn3⟩
  have hz3 : sz3.length = 2 := G3.out.2.1
  have HZ3 : Hid (sz3.length = 2) := hz3
  have lz3 : 1 < sz3.length := by omega
  have ly3 : 0 < sz3.length := by omega
  have lw3 : (1 : Int) < (sz3.length : Int) := by omega
  have lv3 : (0 : Int) < (sz3.length : Int) := by omega
  clear hq3 hc3 hm3 hn3 hz3
  have t1 : (n1 != m2) = false := by rw [HM1.out.2, HM2.out.1, E1.out]; simp
  have t2 : (n2 != m3) = true := by rw [HM2.out.2, HM3.out.1]; simpa using E2.out
  obtain ⟨x11, x12, x3, x4, s64, T⟩ := w8
  have HI1 : Hid (IsC w.heap.size w (some ⟨b1, o1, none⟩) sz1 sc1 ∧ IsC w.heap.size w da1 dz1 dc1 ∧ (∀ j, In64 (nth sz1 j)) ∧ ∀ j, In64 (nth dz1 j)) := ⟨x3, x4, s64, T⟩
  clear x3 x4 T s64
  obtain ⟨x21, x22, x3, x4, s64, T⟩ := w9
  have HI2 : Hid (IsC w.heap.size w (some ⟨b2, o2, none⟩) sz2 sc2 ∧ IsC w.heap.size w da2 dz2 dc2 ∧ (∀ j, In64 (nth sz2 j)) ∧ ∀ j, In64 (nth dz2 j)) := ⟨x3, x4, s64, T⟩
  clear x3 x4 T s64
  obtain ⟨x31, x32, x3, x4, s64, T⟩ := w10
  have HI3 : Hid (IsC w.heap.size w (some ⟨b3, o3, none⟩) sz3 sc3 ∧ IsC w.heap.size w da3 dz3 dc3 ∧ (∀ j, In64 (nth sz3 j)) ∧ ∀ j, In64 (nth dz3 j)) := ⟨x3, x4, s64, T⟩
  clear x3 x4 T s64
  have n1 := Abx.new w (.bool false) (.slice (some ⟨b1, o1, none⟩) sz1.length sc1) (.slice da1 dz1.length dc1)
  have n2 := Abx.new (w.alloc (.cells #[.bool false, .slice (some ⟨b1, o1, none⟩) sz1.length sc1, .slice da1 dz1.length dc1] 25)) (.bool false) (.slice (some ⟨b2, o2, none⟩) sz2.length sc2) (.slice da2 dz2.length dc2)
  simp only [World.size_alloc] at n2
  have n3 := Abx.new ((w.alloc (.cells #[.bool false, .slice (some ⟨b1, o1, none⟩) sz1.length sc1, .slice da1 dz1.length dc1] 25)).alloc (.cells #[.bool false, .slice (some ⟨b2, o2, none⟩) sz2.length sc2, .slice da2 dz2.length dc2] 25)) (.bool false) (.slice (some ⟨b3, o3, none⟩) sz3.length sc3) (.slice da3 dz3.length dc3)
  simp only [World.size_alloc] at n3
  have n4 := lit_mid (((w.alloc (.cells #[.bool false, .slice (some ⟨b1, o1, none⟩) sz1.length sc1, .slice da1 dz1.length dc1] 25)).alloc (.cells #[.bool false, .slice (some ⟨b2, o2, none⟩) sz2.length sc2, .slice da2 dz2.length dc2] 25)).alloc (.cells #[.bool false, .slice (some ⟨b3, o3, none⟩) sz3.length sc3, .slice da3 dz3.length dc3] 25)) 3 [1, 2, 3] 3 rfl
  simp only [World.size_alloc, List.map_cons, List.map_nil] at n4
  go_enter Try.func3, Try.ntmps3
  go_wp2_with fail
  obtain ⟨wo5, hwo5⟩ : ∃ wo5, wo5 = ((((w.alloc (.cells #[.bool false, .slice (some ⟨b1, o1, none⟩) sz1.length sc1, .slice da1 dz1.length dc1] 25)).alloc (.cells #[.bool false, .slice (some ⟨b2, o2, none⟩) sz2.length sc2, .slice da2 dz2.length dc2] 25)).alloc (.cells #[.bool false, .slice (some ⟨b3, o3, none⟩) sz3.length sc3, .slice da3 dz3.length dc3] 25)).alloc (.cells #[.int .i64 1, .int .i64 2, .int .i64 3] 3)) := ⟨_, rfl⟩
  rw [← hwo5]
  have z6 : w.heap.size + 1 + 1 + 1 + 1 ≤ wo5.heap.size := by rw [hwo5]; simp only [World.size_alloc]; omega
  have B7 : Hid (Abx wo5 (w.heap.size) (.bool false) (.slice (some ⟨b1, o1, none⟩) sz1.length sc1) (.slice da1 dz1.length dc1)) := by rw [hwo5]; exact (((n1.al (.cells #[.bool false, .slice (some ⟨b2, o2, none⟩) sz2.length sc2, .slice da2 dz2.length dc2] 25)).al (.cells #[.bool false, .slice (some ⟨b3, o3, none⟩) sz3.length sc3, .slice da3 dz3.length dc3] 25)).al (.cells #[.int .i64 1, .int .i64 2, .int .i64 3] 3))
  have B8 : Hid (Abx wo5 (w.heap.size + 1) (.bool false) (.slice (some ⟨b2, o2, none⟩) sz2.length sc2) (.slice da2 dz2.length dc2)) := by rw [hwo5]; exact ((n2.al (.cells #[.bool false, .slice (some ⟨b3, o3, none⟩) sz3.length sc3, .slice da3 dz3.length dc3] 25)).al (.cells #[.int .i64 1, .int .i64 2, .int .i64 3] 3))
  have B9 : Hid (Abx wo5 (w.heap.size + 1 + 1) (.bool false) (.slice (some ⟨b3, o3, none⟩) sz3.length sc3) (.slice da3 dz3.length dc3)) := by rw [hwo5]; exact (n3.al (.cells #[.int .i64 1, .int .i64 2, .int .i64 3] 3))
  have L10 : Hid (MidC (w.heap.size + 1 + 1 + 1) (w.heap.size + 1 + 1 + 1 + 1) wo5 (some ⟨w.heap.size + 1 + 1 + 1, 0, none⟩) ([1, 2, 3]) (3)) := by rw [hwo5]; exact n4
  have hb11 : Hid (Below w.heap.size w wo5) := by rw [hwo5]; exact (((((Below.refl w.heap.size w).alloc (by omega) (.cells #[.bool false, .slice (some ⟨b1, o1, none⟩) sz1.length sc1, .slice da1 dz1.length dc1] 25)).alloc (by simp only [World.size_alloc]; omega) (.cells #[.bool false, .slice (some ⟨b2, o2, none⟩) sz2.length sc2, .slice da2 dz2.length dc2] 25)).alloc (by simp only [World.size_alloc]; omega) (.cells #[.bool false, .slice (some ⟨b3, o3, none⟩) sz3.length sc3, .slice da3 dz3.length dc3] 25)).alloc (by simp only [World.size_alloc]; omega) (.cells #[.int .i64 1, .int .i64 2, .int .i64 3] 3))
  have zwo5 : w.heap.size ≤ wo5.heap.size := hb11.out.size
  clear hwo5 n1 n2 n3 n4
  refine (vec_c (some ⟨w.heap.size + 1 + 1 + 1, 0, none⟩) 3 [1, 2, 3] (by simp) _ (L10.out.is (by omega)).1).mono ?_
  rintro e v1 ⟨vap, vcp, gap, gcp, rfl, hVp, hGp, hB⟩
  have z12 : wo5.heap.size ≤ v1.heap.size := hB.size
  have B13 : Hid (Abx v1 (w.heap.size) (.bool false) (.slice (some ⟨b1, o1, none⟩) sz1.length sc1) (.slice da1 dz1.length dc1)) := B7.out.go hB
  have B14 : Hid (Abx v1 (w.heap.size + 1) (.bool false) (.slice (some ⟨b2, o2, none⟩) sz2.length sc2) (.slice da2 dz2.length dc2)) := B8.out.go hB
  have B15 : Hid (Abx v1 (w.heap.size + 1 + 1) (.bool false) (.slice (some ⟨b3, o3, none⟩) sz3.length sc3) (.slice da3 dz3.length dc3)) := B9.out.go hB
  have L16 : Hid (MidC (w.heap.size + 1 + 1 + 1) (w.heap.size + 1 + 1 + 1 + 1) v1 (some ⟨w.heap.size + 1 + 1 + 1, 0, none⟩) ([1, 2, 3]) (3)) := L10.out.go (by omega) hB
  have hb17 : Hid (Below w.heap.size w v1) := hb11.out.trans (hB.mono hb11.out.size)
  have L18 : Hid (MidC (wo5.heap.size) (v1.heap.size) v1 (vap) ([(3 : Int)]) (vcp)) := hVp.midc
  have L19 : Hid (MidC (wo5.heap.size) (v1.heap.size) v1 (gap) ([1, 2, 3]) (gcp)) := hGp.midc
  clear hB hb11 B7 B8 B9 L10 hVp hGp
  clear L16
  have n20 := lit_mid v1 3 [4, 5, 6] 3 rfl
  simp only [List.map_cons, List.map_nil] at n20
  go_wp2_with fail
  obtain ⟨wo21, hwo21⟩ : ∃ wo21, wo21 = (v1.alloc (.cells #[.int .i64 4, .int .i64 5, .int .i64 6] 3)) := ⟨_, rfl⟩
  rw [← hwo21]
  have z22 : v1.heap.size + 1 ≤ wo21.heap.size := by rw [hwo21]; simp only [World.size_alloc]; omega
  have B23 : Hid (Abx wo21 (w.heap.size) (.bool false) (.slice (some ⟨b1, o1, none⟩) sz1.length sc1) (.slice da1 dz1.length dc1)) := by rw [hwo21]; exact (B13.out.al (.cells #[.int .i64 4, .int .i64 5, .int .i64 6] 3))
  have B24 : Hid (Abx wo21 (w.heap.size + 1) (.bool false) (.slice (some ⟨b2, o2, none⟩) sz2.length sc2) (.slice da2 dz2.length dc2)) := by rw [hwo21]; exact (B14.out.al (.cells #[.int .i64 4, .int .i64 5, .int .i64 6] 3))
  have B25 : Hid (Abx wo21 (w.heap.size + 1 + 1) (.bool false) (.slice (some ⟨b3, o3, none⟩) sz3.length sc3) (.slice da3 dz3.length dc3)) := by rw [hwo21]; exact (B15.out.al (.cells #[.int .i64 4, .int .i64 5, .int .i64 6] 3))
  have L26 : Hid (MidC (wo5.heap.size) (v1.heap.size) wo21 (vap) ([(3 : Int)]) (vcp)) := by rw [hwo21]; exact (L18.out.al (by omega) (.cells #[.int .i64 4, .int .i64 5, .int .i64 6] 3))
  have L27 : Hid (MidC (wo5.heap.size) (v1.heap.size) wo21 (gap) ([1, 2, 3]) (gcp)) := by rw [hwo21]; exact (L19.out.al (by omega) (.cells #[.int .i64 4, .int .i64 5, .int .i64 6] 3))
  have L28 : Hid (MidC (v1.heap.size) (v1.heap.size + 1) wo21 (some ⟨v1.heap.size, 0, none⟩) ([4, 5, 6]) (3)) := by rw [hwo21]; exact n20
  have hb29 : Hid (Below w.heap.size w wo21) := by rw [hwo21]; exact (hb17.out.alloc (by omega) (.cells #[.int .i64 4, .int .i64 5, .int .i64 6] 3))
  have zwo21 : w.heap.size ≤ wo21.heap.size := hb29.out.size
  clear hwo21 n20 hb17 B13 B14 B15 L18 L19
  refine (vec_c (some ⟨v1.heap.size, 0, none⟩) 3 [4, 5, 6] (by simp) _ (L28.out.is (by omega)).1).mono ?_
  rintro e v2 ⟨vaq, vcq, gaq, gcq, rfl, hVq, hGq, hB⟩
  have z30 : wo21.heap.size ≤ v2.heap.size := hB.size
  have B31 : Hid (Abx v2 (w.heap.size) (.bool false) (.slice (some ⟨b1, o1, none⟩) sz1.length sc1) (.slice da1 dz1.length dc1)) := B23.out.go hB
  have B32 : Hid (Abx v2 (w.heap.size + 1) (.bool false) (.slice (some ⟨b2, o2, none⟩) sz2.length sc2) (.slice da2 dz2.length dc2)) := B24.out.go hB
  have B33 : Hid (Abx v2 (w.heap.size + 1 + 1) (.bool false) (.slice (some ⟨b3, o3, none⟩) sz3.length sc3) (.slice da3 dz3.length dc3)) := B25.out.go hB
  have L34 : Hid (MidC (wo5.heap.size) (v1.heap.size) v2 (vap) ([(3 : Int)]) (vcp)) := L26.out.go (by omega) hB
  have L35 : Hid (MidC (wo5.heap.size) (v1.heap.size) v2 (gap) ([1, 2, 3]) (gcp)) := L27.out.go (by omega) hB
  have L36 : Hid (MidC (v1.heap.size) (v1.heap.size + 1) v2 (some ⟨v1.heap.size, 0, none⟩) ([4, 5, 6]) (3)) := L28.out.go (by omega) hB
  have hb37 : Hid (Below w.heap.size w v2) := hb29.out.trans (hB.mono hb29.out.size)
  have L38 : Hid (MidC (wo21.heap.size) (v2.heap.size) v2 (vaq) ([(3 : Int)]) (vcq)) := hVq.midc
  have L39 : Hid (MidC (wo21.heap.size) (v2.heap.size) v2 (gaq) ([4, 5, 6]) (gcq)) := hGq.midc
  clear hB hb29 B23 B24 B25 L26 L27 L28 hVq hGq
  clear L36
  go_wp2_with fail
  refine (niw_ok 1 3 false vap vcp [(3 : Int)] 1 rfl gap gcp [1, 2, 3] 3 rfl false vaq vcq [(3 : Int)] 1 rfl gaq gcq [4, 5, 6] 3 rfl _ (by unfold In64; decide) (by unfold In64; decide) (by decide) (by decide) (L34.out.is (by omega)) (L35.out.is (by omega)).1 (lit12 (by decide)) (by decide) (by decide) (L38.out.is (by omega)) (L39.out.is (by omega)).1 (lit12 (by decide)) [] [32] HNi (by show inE 1 3 false [(3 : Int)] [1, 2, 3] false [(3 : Int)] [4, 5, 6] = 0 ∧ inS [(3 : Int)] [(3 : Int)] = [] ∧ inD 1 3 false [(3 : Int)] [1, 2, 3] false [(3 : Int)] [4, 5, 6] = [32]; decide +kernel)).mono ?_
  rintro e v3 ⟨f1, g1, f2, g2, rfl, hX0, hY0, hB⟩
  have z40 : v2.heap.size ≤ v3.heap.size := hB.size
  have B41 : Hid (Abx v3 (w.heap.size) (.bool false) (.slice (some ⟨b1, o1, none⟩) sz1.length sc1) (.slice da1 dz1.length dc1)) := B31.out.go hB
  have B42 : Hid (Abx v3 (w.heap.size + 1) (.bool false) (.slice (some ⟨b2, o2, none⟩) sz2.length sc2) (.slice da2 dz2.length dc2)) := B32.out.go hB
  have B43 : Hid (Abx v3 (w.heap.size + 1 + 1) (.bool false) (.slice (some ⟨b3, o3, none⟩) sz3.length sc3) (.slice da3 dz3.length dc3)) := B33.out.go hB
  have L44 : Hid (MidC (wo5.heap.size) (v1.heap.size) v3 (vap) ([(3 : Int)]) (vcp)) := L34.out.go (by omega) hB
  have L45 : Hid (MidC (wo5.heap.size) (v1.heap.size) v3 (gap) ([1, 2, 3]) (gcp)) := L35.out.go (by omega) hB
  have L46 : Hid (MidC (wo21.heap.size) (v2.heap.size) v3 (vaq) ([(3 : Int)]) (vcq)) := L38.out.go (by omega) hB
  have L47 : Hid (MidC (wo21.heap.size) (v2.heap.size) v3 (gaq) ([4, 5, 6]) (gcq)) := L39.out.go (by omega) hB
  have hb48 : Hid (Below w.heap.size w v3) := hb37.out.trans (hB.mono hb37.out.size)
  have L49 : Hid (MidC (v2.heap.size) (v3.heap.size) v3 (f1) ([]) (g1)) := hX0.midc
  have L50 : Hid (MidC (v2.heap.size) (v3.heap.size) v3 (f2) ([32]) (g2)) := hY0.midc
  clear hB hb37 B31 B32 B33 L34 L35 L38 L39 hX0 hY0
  clear L44 L45 L46 L47
  obtain ⟨b51, ob51, rfl, _, _, _, _⟩ := L50.out.at (i := 0) (by decide)
  have n52 := Abx.new v3 (.bool false) (.slice f1 0 g1) (.slice (some ⟨b51, ob51, none⟩) 1 g2)
  have l53 := (n52).c0
  have l54 := (n52).c1
  have l55 := (n52).c2
  obtain ⟨_, _, l56e, _, _, l56, _⟩ := ((L50.out.al (by omega) (.cells #[.bool false, .slice f1 0 g1, .slice (some ⟨b51, ob51, none⟩) 1 g2] 25))).at (i := 0) (by decide)
  cases l56e
  try simp only [Nat.add_zero] at l56
  go_wp2_with fail
  obtain ⟨wo57, hwo57⟩ : ∃ wo57, wo57 = (v3.alloc (.cells #[.bool false, .slice f1 0 g1, .slice (some ⟨b51, ob51, none⟩) 1 g2] 25)) := ⟨_, rfl⟩
  rw [← hwo57]
  have z58 : v3.heap.size + 1 ≤ wo57.heap.size := by rw [hwo57]; simp only [World.size_alloc]; omega
  have B59 : Hid (Abx wo57 (w.heap.size) (.bool false) (.slice (some ⟨b1, o1, none⟩) sz1.length sc1) (.slice da1 dz1.length dc1)) := by rw [hwo57]; exact (B41.out.al (.cells #[.bool false, .slice f1 0 g1, .slice (some ⟨b51, ob51, none⟩) 1 g2] 25))
  have B60 : Hid (Abx wo57 (w.heap.size + 1) (.bool false) (.slice (some ⟨b2, o2, none⟩) sz2.length sc2) (.slice da2 dz2.length dc2)) := by rw [hwo57]; exact (B42.out.al (.cells #[.bool false, .slice f1 0 g1, .slice (some ⟨b51, ob51, none⟩) 1 g2] 25))
  have B61 : Hid (Abx wo57 (w.heap.size + 1 + 1) (.bool false) (.slice (some ⟨b3, o3, none⟩) sz3.length sc3) (.slice da3 dz3.length dc3)) := by rw [hwo57]; exact (B43.out.al (.cells #[.bool false, .slice f1 0 g1, .slice (some ⟨b51, ob51, none⟩) 1 g2] 25))
  have B62 : Hid (Abx wo57 (v3.heap.size) (.bool false) (.slice f1 0 g1) (.slice (some ⟨b51, ob51, none⟩) 1 g2)) := by rw [hwo57]; exact n52
  have L63 : Hid (MidC (v2.heap.size) (v3.heap.size) wo57 (f1) ([]) (g1)) := by rw [hwo57]; exact (L49.out.al (by omega) (.cells #[.bool false, .slice f1 0 g1, .slice (some ⟨b51, ob51, none⟩) 1 g2] 25))
  have L64 : Hid (MidC (v2.heap.size) (v3.heap.size) wo57 (some ⟨b51, ob51, none⟩) ([32]) (g2)) := by rw [hwo57]; exact (L50.out.al (by omega) (.cells #[.bool false, .slice f1 0 g1, .slice (some ⟨b51, ob51, none⟩) 1 g2] 25))
  have hb65 : Hid (Below w.heap.size w wo57) := by rw [hwo57]; exact (hb48.out.alloc (by omega) (.cells #[.bool false, .slice f1 0 g1, .slice (some ⟨b51, ob51, none⟩) 1 g2] 25))
  have zwo57 : w.heap.size ≤ wo57.heap.size := hb65.out.size
  clear hwo57 n52 l53 l54 l55 l56 hb48 B41 B42 B43 L49 L50
  clear L63 L64 B62
  have sx11 : wo57.cell? ⟨b1, o1 + 1, none⟩ = some (.int .i64 n1) := (hb65.out.cell (p := ⟨b1, o1 + 1, none⟩) HC1.out.1).trans HC1.out.2.2
  have sx20 : wo57.cell? ⟨b2, o2, none⟩ = some (.int .i64 m2) := (hb65.out.cell (p := ⟨b2, o2, none⟩) HC2.out.1).trans HC2.out.2.1
  have sx21 : wo57.cell? ⟨b2, o2 + 1, none⟩ = some (.int .i64 n2) := (hb65.out.cell (p := ⟨b2, o2 + 1, none⟩) HC2.out.1).trans HC2.out.2.2
  have sx30 : wo57.cell? ⟨b3, o3, none⟩ = some (.int .i64 m3) := (hb65.out.cell (p := ⟨b3, o3, none⟩) HC3.out.1).trans HC3.out.2.1
  have hb0 : Below wo57.heap.size wo57 wo57.drew := (Below.refl _ wo57).drew
  refine anyC_begin (fun w' => w'.cell? ⟨w.heap.size, 0, none⟩ = some (.bool false) ∧ w'.cell? ⟨w.heap.size, 1, none⟩ = some (.slice (some ⟨b1, o1, none⟩) sz1.length sc1) ∧ w'.cell? ⟨w.heap.size, 2, none⟩ = some (.slice da1 dz1.length dc1) ∧ w'.cell? ⟨w.heap.size + 1, 0, none⟩ = some (.bool false) ∧ w'.cell? ⟨w.heap.size + 1, 1, none⟩ = some (.slice (some ⟨b2, o2, none⟩) sz2.length sc2) ∧ w'.cell? ⟨w.heap.size + 1, 2, none⟩ = some (.slice da2 dz2.length dc2) ∧ w'.cell? ⟨w.heap.size + 1 + 1, 0, none⟩ = some (.bool false) ∧ w'.cell? ⟨w.heap.size + 1 + 1, 1, none⟩ = some (.slice (some ⟨b3, o3, none⟩) sz3.length sc3) ∧ w'.cell? ⟨w.heap.size + 1 + 1, 2, none⟩ = some (.slice da3 dz3.length dc3) ∧ w'.cell? ⟨b1, o1 + 1, none⟩ = some (.int .i64 n1) ∧ w'.cell? ⟨b2, o2, none⟩ = some (.int .i64 m2) ∧ w'.cell? ⟨b2, o2 + 1, none⟩ = some (.int .i64 n2) ∧ w'.cell? ⟨b3, o3, none⟩ = some (.int .i64 m3)) 41 #[false, false, false, false, false, false, false, false, false, false, false, false, false, false, false, false, false, false, false, false, false, false, false, false, false, false, false, false, false, false, false, false, false, false, false, false, false, false, false, false, false] (by kernel_rfl) rfl rfl ?_
  refine anyC_put 0 43 ?rv41 #[true, false, false, false, false, false, false, false, false, false, false, false, false, false, false, false, false, false, false, false, false, false, false, false, false, false, false, false, false, false, false, false, false, false, false, false, false, false, false, false, false] rfl rfl rfl (by kernel_rfl) (by kernel_rfl) (by kernel_rfl) (fun _ _ _ h => h) ?ry41 (⟨(B59.out.go hb0).c0, (B59.out.go hb0).c1, (B59.out.go hb0).c2, (B60.out.go hb0).c0, (B60.out.go hb0).c1, (B60.out.go hb0).c2, (B61.out.go hb0).c0, (B61.out.go hb0).c1, (B61.out.go hb0).c2, cell_to sx11 hb0, cell_to sx20 hb0, cell_to sx21 hb0, cell_to sx30 hb0⟩) ?rm41
  case ry41 => first | exact Or.inl ⟨by rfl, by intro w'; go_simp; first | done | rfl⟩
  case rm41 =>
  simp only [Act.put, List.setIfInBounds_toArray, List.set_cons_zero, List.set_cons_succ]
  refine anyC_put 1 44 ?rv42 #[true, true, false, false, false, false, false, false, false, false, false, false, false, false, false, false, false, false, false, false, false, false, false, false, false, false, false, false, false, false, false, false, false, false, false, false, false, false, false, false, false] rfl rfl rfl (by kernel_rfl) (by kernel_rfl) (by kernel_rfl) (fun _ _ _ h => h) ?ry42 (⟨(B59.out.go hb0).c0, (B59.out.go hb0).c1, (B59.out.go hb0).c2, (B60.out.go hb0).c0, (B60.out.go hb0).c1, (B60.out.go hb0).c2, (B61.out.go hb0).c0, (B61.out.go hb0).c1, (B61.out.go hb0).c2, cell_to sx11 hb0, cell_to sx20 hb0, cell_to sx21 hb0, cell_to sx30 hb0⟩) ?rm42
  case ry42 => first | exact Or.inl ⟨by rfl, by intro w'; go_simp; first | done | rfl⟩
  case rm42 =>
  simp only [Act.put, List.setIfInBounds_toArray, List.set_cons_zero, List.set_cons_succ]
  refine anyC_one 2 #[true, true, true, false, false, false, false, false, false, false, false, false, false, false, false, false, false, false, false, false, false, false, false, false, false, false, false, false, false, false, false, false, false, false, false, false, false, false, false, false, false] (by kernel_rfl) rfl rfl (fun K hK => ?_)
  go_simp
  go_wp2_with (go_at_call 9; refine (sring_any f g _).mono ?_; rintro e ysr ⟨rfl, hysr⟩; obtain rfl := hysr.symm; rw [srB_yes GS.out])
  refine hK.out _ _ (⟨(B59.out.go hb0).c0, (B59.out.go hb0).c1, (B59.out.go hb0).c2, (B60.out.go hb0).c0, (B60.out.go hb0).c1, (B60.out.go hb0).c2, (B61.out.go hb0).c0, (B61.out.go hb0).c1, (B61.out.go hb0).c2, cell_to sx11 hb0, cell_to sx20 hb0, cell_to sx21 hb0, cell_to sx30 hb0⟩) ?_
  clear hK K
  refine anyC_put 3 46 ?rv44 #[true, true, true, true, false, false, false, false, false, false, false, false, false, false, false, false, false, false, false, false, false, false, false, false, false, false, false, false, false, false, false, false, false, false, false, false, false, false, false, false, false] rfl rfl rfl (by kernel_rfl) (by kernel_rfl) (by kernel_rfl) (fun _ _ _ h => h) ?ry44 (⟨(B59.out.go hb0).c0, (B59.out.go hb0).c1, (B59.out.go hb0).c2, (B60.out.go hb0).c0, (B60.out.go hb0).c1, (B60.out.go hb0).c2, (B61.out.go hb0).c0, (B61.out.go hb0).c1, (B61.out.go hb0).c2, cell_to sx11 hb0, cell_to sx20 hb0, cell_to sx21 hb0, cell_to sx30 hb0⟩) ?rm44
  case ry44 => first | exact Or.inl ⟨by rfl, by intro w'; go_simp; first | done | rfl⟩
  case rm44 =>
  simp only [Act.put, List.setIfInBounds_toArray, List.set_cons_zero, List.set_cons_succ]
  refine anyC_put 4 47 ?rv45 #[true, true, true, true, true, false, false, false, false, false, false, false, false, false, false, false, false, false, false, false, false, false, false, false, false, false, false, false, false, false, false, false, false, false, false, false, false, false, false, false, false] rfl rfl rfl (by kernel_rfl) (by kernel_rfl) (by kernel_rfl) (fun _ _ _ h => h) ?ry45 (⟨(B59.out.go hb0).c0, (B59.out.go hb0).c1, (B59.out.go hb0).c2, (B60.out.go hb0).c0, (B60.out.go hb0).c1, (B60.out.go hb0).c2, (B61.out.go hb0).c0, (B61.out.go hb0).c1, (B61.out.go hb0).c2, cell_to sx11 hb0, cell_to sx20 hb0, cell_to sx21 hb0, cell_to sx30 hb0⟩) ?rm45
  case ry45 => first | exact Or.inl ⟨by rfl, by intro w'; go_simp; first | done | rfl⟩
  case rm45 =>
  simp only [Act.put, List.setIfInBounds_toArray, List.set_cons_zero, List.set_cons_succ]
  refine anyC_take 5 48 ?rv46 #[true, true, true, true, true, true, false, false, false, false, false, false, false, false, false, false, false, false, false, false, false, false, false, false, false, false, false, false, false, false, false, false, false, false, false, false, false, false, false, false, false] rfl rfl rfl (by kernel_rfl) (by kernel_rfl) (by kernel_rfl) (fun _ _ _ h => h) ?ry46 (⟨(B59.out.go hb0).c0, (B59.out.go hb0).c1, (B59.out.go hb0).c2, (B60.out.go hb0).c0, (B60.out.go hb0).c1, (B60.out.go hb0).c2, (B61.out.go hb0).c0, (B61.out.go hb0).c1, (B61.out.go hb0).c2, cell_to sx11 hb0, cell_to sx20 hb0, cell_to sx21 hb0, cell_to sx30 hb0⟩) ?rm46
  case ry46 => first | exact Or.inl ⟨by rfl, by intro w' hw'; (try dsimp only at hw'); go_simp; first | done | rfl⟩ | exact Or.inr ⟨by rfl, rfl⟩ | exact Or.inr ⟨by rfl, by rfl⟩
  case rm46 =>
  simp only [Act.put, List.setIfInBounds_toArray, List.set_cons_zero, List.set_cons_succ]
  refine anyC_one 6 #[true, true, true, true, true, true, true, false, false, false, false, false, false, false, false, false, false, false, false, false, false, false, false, false, false, false, false, false, false, false, false, false, false, false, false, false, false, false, false, false, false] (by kernel_rfl) rfl rfl (fun K hK => ?_)
  go_simp
  go_wp2_with (go_at_call 10; refine (grid_yes 16 (by decide) false (some ⟨b1, o1, none⟩) sc1 sz1 da1 dc1 dz1 _ ((HI1.out.1.1.below (hb65.out.trans (hb0.mono hb65.out.size))).mono (hb65.out.trans (hb0.mono hb65.out.size)).size) G1.out).mono ?_; rintro e y1 ⟨rfl, hBy1⟩)
  have hby1 : Below wo57.heap.size wo57 y1 := hb0.trans (hBy1.mono hb0.size)
  refine hK.out _ _ (⟨(B59.out.go hby1).c0, (B59.out.go hby1).c1, (B59.out.go hby1).c2, (B60.out.go hby1).c0, (B60.out.go hby1).c1, (B60.out.go hby1).c2, (B61.out.go hby1).c0, (B61.out.go hby1).c1, (B61.out.go hby1).c2, cell_to sx11 hby1, cell_to sx20 hby1, cell_to sx21 hby1, cell_to sx30 hby1⟩) ?_
  clear hK K
  refine anyC_put 7 50 ?rv48 #[true, true, true, true, true, true, true, true, false, false, false, false, false, false, false, false, false, false, false, false, false, false, false, false, false, false, false, false, false, false, false, false, false, false, false, false, false, false, false, false, false] rfl rfl rfl (by kernel_rfl) (by kernel_rfl) (by kernel_rfl) (fun _ _ _ h => h) ?ry48 (⟨(B59.out.go hby1).c0, (B59.out.go hby1).c1, (B59.out.go hby1).c2, (B60.out.go hby1).c0, (B60.out.go hby1).c1, (B60.out.go hby1).c2, (B61.out.go hby1).c0, (B61.out.go hby1).c1, (B61.out.go hby1).c2, cell_to sx11 hby1, cell_to sx20 hby1, cell_to sx21 hby1, cell_to sx30 hby1⟩) ?rm48
  case ry48 => first | exact Or.inl ⟨by rfl, by intro w'; go_simp; first | done | rfl⟩ | exact Or.inr ⟨by rfl, rfl⟩ | exact Or.inr ⟨by rfl, by rfl⟩
  case rm48 =>
  simp only [Act.put, List.setIfInBounds_toArray, List.set_cons_zero, List.set_cons_succ]
  refine anyC_put 8 51 ?rv49 #[true, true, true, true, true, true, true, true, true, false, false, false, false, false, false, false, false, false, false, false, false, false, false, false, false, false, false, false, false, false, false, false, false, false, false, false, false, false, false, false, false] rfl rfl rfl (by kernel_rfl) (by kernel_rfl) (by kernel_rfl) (fun _ _ _ h => h) ?ry49 (⟨(B59.out.go hby1).c0, (B59.out.go hby1).c1, (B59.out.go hby1).c2, (B60.out.go hby1).c0, (B60.out.go hby1).c1, (B60.out.go hby1).c2, (B61.out.go hby1).c0, (B61.out.go hby1).c1, (B61.out.go hby1).c2, cell_to sx11 hby1, cell_to sx20 hby1, cell_to sx21 hby1, cell_to sx30 hby1⟩) ?rm49
  case ry49 => first | exact Or.inl ⟨by rfl, by intro w'; go_simp; first | done | rfl⟩
  case rm49 =>
  simp only [Act.put, List.setIfInBounds_toArray, List.set_cons_zero, List.set_cons_succ]
  refine anyC_put 9 52 ?rv50 #[true, true, true, true, true, true, true, true, true, true, false, false, false, false, false, false, false, false, false, false, false, false, false, false, false, false, false, false, false, false, false, false, false, false, false, false, false, false, false, false, false] rfl rfl rfl (by kernel_rfl) (by kernel_rfl) (by kernel_rfl) (fun _ _ _ h => h) ?ry50 (⟨(B59.out.go hby1).c0, (B59.out.go hby1).c1, (B59.out.go hby1).c2, (B60.out.go hby1).c0, (B60.out.go hby1).c1, (B60.out.go hby1).c2, (B61.out.go hby1).c0, (B61.out.go hby1).c1, (B61.out.go hby1).c2, cell_to sx11 hby1, cell_to sx20 hby1, cell_to sx21 hby1, cell_to sx30 hby1⟩) ?rm50
  case ry50 => first | exact Or.inl ⟨by rfl, by intro w'; go_simp; first | done | rfl⟩
  case rm50 =>
  simp only [Act.put, List.setIfInBounds_toArray, List.set_cons_zero, List.set_cons_succ]
  refine anyC_take 10 53 ?rv51 #[true, true, true, true, true, true, true, true, true, true, true, false, false, false, false, false, false, false, false, false, false, false, false, false, false, false, false, false, false, false, false, false, false, false, false, false, false, false, false, false, false] rfl rfl rfl (by kernel_rfl) (by kernel_rfl) (by kernel_rfl) (fun _ _ _ h => h) ?ry51 (⟨(B59.out.go hby1).c0, (B59.out.go hby1).c1, (B59.out.go hby1).c2, (B60.out.go hby1).c0, (B60.out.go hby1).c1, (B60.out.go hby1).c2, (B61.out.go hby1).c0, (B61.out.go hby1).c1, (B61.out.go hby1).c2, cell_to sx11 hby1, cell_to sx20 hby1, cell_to sx21 hby1, cell_to sx30 hby1⟩) ?rm51
  case ry51 => first | exact Or.inl ⟨by rfl, by intro w' hw'; (try dsimp only at hw'); go_simp; first | done | rfl⟩ | exact Or.inr ⟨by rfl, rfl⟩ | exact Or.inr ⟨by rfl, by rfl⟩
  case rm51 =>
  simp only [Act.put, List.setIfInBounds_toArray, List.set_cons_zero, List.set_cons_succ]
  refine anyC_one 11 #[true, true, true, true, true, true, true, true, true, true, true, true, false, false, false, false, false, false, false, false, false, false, false, false, false, false, false, false, false, false, false, false, false, false, false, false, false, false, false, false, false] (by kernel_rfl) rfl rfl (fun K hK => ?_)
  go_simp
  go_wp2_with (go_at_call 10; refine (grid_yes 16 (by decide) false (some ⟨b2, o2, none⟩) sc2 sz2 da2 dc2 dz2 _ ((HI2.out.1.1.below (hb65.out.trans (hby1.mono hb65.out.size))).mono (hb65.out.trans (hby1.mono hb65.out.size)).size) G2.out).mono ?_; rintro e y2 ⟨rfl, hBy2⟩)
  have hby2 : Below wo57.heap.size wo57 y2 := hby1.trans (hBy2.mono hby1.size)
  refine hK.out _ _ (⟨(B59.out.go hby2).c0, (B59.out.go hby2).c1, (B59.out.go hby2).c2, (B60.out.go hby2).c0, (B60.out.go hby2).c1, (B60.out.go hby2).c2, (B61.out.go hby2).c0, (B61.out.go hby2).c1, (B61.out.go hby2).c2, cell_to sx11 hby2, cell_to sx20 hby2, cell_to sx21 hby2, cell_to sx30 hby2⟩) ?_
  clear hK K
  refine anyC_put 12 55 ?rv53 #[true, true, true, true, true, true, true, true, true, true, true, true, true, false, false, false, false, false, false, false, false, false, false, false, false, false, false, false, false, false, false, false, false, false, false, false, false, false, false, false, false] rfl rfl rfl (by kernel_rfl) (by kernel_rfl) (by kernel_rfl) (fun _ _ _ h => h) ?ry53 (⟨(B59.out.go hby2).c0, (B59.out.go hby2).c1, (B59.out.go hby2).c2, (B60.out.go hby2).c0, (B60.out.go hby2).c1, (B60.out.go hby2).c2, (B61.out.go hby2).c0, (B61.out.go hby2).c1, (B61.out.go hby2).c2, cell_to sx11 hby2, cell_to sx20 hby2, cell_to sx21 hby2, cell_to sx30 hby2⟩) ?rm53
  case ry53 => first | exact Or.inl ⟨by rfl, by intro w'; go_simp; first | done | rfl⟩ | exact Or.inr ⟨by rfl, rfl⟩ | exact Or.inr ⟨by rfl, by rfl⟩
  case rm53 =>
  simp only [Act.put, List.setIfInBounds_toArray, List.set_cons_zero, List.set_cons_succ]
  refine anyC_put 13 56 ?rv54 #[true, true, true, true, true, true, true, true, true, true, true, true, true, true, false, false, false, false, false, false, false, false, false, false, false, false, false, false, false, false, false, false, false, false, false, false, false, false, false, false, false] rfl rfl rfl (by kernel_rfl) (by kernel_rfl) (by kernel_rfl) (fun _ _ _ h => h) ?ry54 (⟨(B59.out.go hby2).c0, (B59.out.go hby2).c1, (B59.out.go hby2).c2, (B60.out.go hby2).c0, (B60.out.go hby2).c1, (B60.out.go hby2).c2, (B61.out.go hby2).c0, (B61.out.go hby2).c1, (B61.out.go hby2).c2, cell_to sx11 hby2, cell_to sx20 hby2, cell_to sx21 hby2, cell_to sx30 hby2⟩) ?rm54
  case ry54 => first | exact Or.inl ⟨by rfl, by intro w'; go_simp; first | done | rfl⟩
  case rm54 =>
  simp only [Act.put, List.setIfInBounds_toArray, List.set_cons_zero, List.set_cons_succ]
  refine anyC_put 14 57 ?rv55 #[true, true, true, true, true, true, true, true, true, true, true, true, true, true, true, false, false, false, false, false, false, false, false, false, false, false, false, false, false, false, false, false, false, false, false, false, false, false, false, false, false] rfl rfl rfl (by kernel_rfl) (by kernel_rfl) (by kernel_rfl) (fun _ _ _ h => h) ?ry55 (⟨(B59.out.go hby2).c0, (B59.out.go hby2).c1, (B59.out.go hby2).c2, (B60.out.go hby2).c0, (B60.out.go hby2).c1, (B60.out.go hby2).c2, (B61.out.go hby2).c0, (B61.out.go hby2).c1, (B61.out.go hby2).c2, cell_to sx11 hby2, cell_to sx20 hby2, cell_to sx21 hby2, cell_to sx30 hby2⟩) ?rm55
  case ry55 => first | exact Or.inl ⟨by rfl, by intro w'; go_simp; first | done | rfl⟩
  case rm55 =>
  simp only [Act.put, List.setIfInBounds_toArray, List.set_cons_zero, List.set_cons_succ]
  refine anyC_take 15 58 ?rv56 #[true, true, true, true, true, true, true, true, true, true, true, true, true, true, true, true, false, false, false, false, false, false, false, false, false, false, false, false, false, false, false, false, false, false, false, false, false, false, false, false, false] rfl rfl rfl (by kernel_rfl) (by kernel_rfl) (by kernel_rfl) (fun _ _ _ h => h) ?ry56 (⟨(B59.out.go hby2).c0, (B59.out.go hby2).c1, (B59.out.go hby2).c2, (B60.out.go hby2).c0, (B60.out.go hby2).c1, (B60.out.go hby2).c2, (B61.out.go hby2).c0, (B61.out.go hby2).c1, (B61.out.go hby2).c2, cell_to sx11 hby2, cell_to sx20 hby2, cell_to sx21 hby2, cell_to sx30 hby2⟩) ?rm56
  case ry56 => first | exact Or.inl ⟨by rfl, by intro w' hw'; (try dsimp only at hw'); go_simp; first | done | rfl⟩ | exact Or.inr ⟨by rfl, rfl⟩ | exact Or.inr ⟨by rfl, by rfl⟩
  case rm56 =>
  simp only [Act.put, List.setIfInBounds_toArray, List.set_cons_zero, List.set_cons_succ]
  refine anyC_one 16 #[true, true, true, true, true, true, true, true, true, true, true, true, true, true, true, true, true, false, false, false, false, false, false, false, false, false, false, false, false, false, false, false, false, false, false, false, false, false, false, false, false] (by kernel_rfl) rfl rfl (fun K hK => ?_)
  go_simp
  go_wp2_with (go_at_call 10; refine (grid_yes 16 (by decide) false (some ⟨b3, o3, none⟩) sc3 sz3 da3 dc3 dz3 _ ((HI3.out.1.1.below (hb65.out.trans (hby2.mono hb65.out.size))).mono (hb65.out.trans (hby2.mono hb65.out.size)).size) G3.out).mono ?_; rintro e y3 ⟨rfl, hBy3⟩)
  have hby3 : Below wo57.heap.size wo57 y3 := hby2.trans (hBy3.mono hby2.size)
  refine hK.out _ _ (⟨(B59.out.go hby3).c0, (B59.out.go hby3).c1, (B59.out.go hby3).c2, (B60.out.go hby3).c0, (B60.out.go hby3).c1, (B60.out.go hby3).c2, (B61.out.go hby3).c0, (B61.out.go hby3).c1, (B61.out.go hby3).c2, cell_to sx11 hby3, cell_to sx20 hby3, cell_to sx21 hby3, cell_to sx30 hby3⟩) ?_
  clear hK K
  refine anyC_put 17 60 ?rv58 #[true, true, true, true, true, true, true, true, true, true, true, true, true, true, true, true, true, true, false, false, false, false, false, false, false, false, false, false, false, false, false, false, false, false, false, false, false, false, false, false, false] rfl rfl rfl (by kernel_rfl) (by kernel_rfl) (by kernel_rfl) (fun _ _ _ h => h) ?ry58 (⟨(B59.out.go hby3).c0, (B59.out.go hby3).c1, (B59.out.go hby3).c2, (B60.out.go hby3).c0, (B60.out.go hby3).c1, (B60.out.go hby3).c2, (B61.out.go hby3).c0, (B61.out.go hby3).c1, (B61.out.go hby3).c2, cell_to sx11 hby3, cell_to sx20 hby3, cell_to sx21 hby3, cell_to sx30 hby3⟩) ?rm58
  case ry58 => first | exact Or.inl ⟨by rfl, by intro w'; go_simp; first | done | rfl⟩ | exact Or.inr ⟨by rfl, rfl⟩ | exact Or.inr ⟨by rfl, by rfl⟩
  case rm58 =>
  simp only [Act.put, List.setIfInBounds_toArray, List.set_cons_zero, List.set_cons_succ]
  refine anyC_put 18 61 ?rv59 #[true, true, true, true, true, true, true, true, true, true, true, true, true, true, true, true, true, true, true, false, false, false, false, false, false, false, false, false, false, false, false, false, false, false, false, false, false, false, false, false, false] rfl rfl rfl (by kernel_rfl) (by kernel_rfl) (by kernel_rfl) (fun _ _ _ h => h) ?ry59 (⟨(B59.out.go hby3).c0, (B59.out.go hby3).c1, (B59.out.go hby3).c2, (B60.out.go hby3).c0, (B60.out.go hby3).c1, (B60.out.go hby3).c2, (B61.out.go hby3).c0, (B61.out.go hby3).c1, (B61.out.go hby3).c2, cell_to sx11 hby3, cell_to sx20 hby3, cell_to sx21 hby3, cell_to sx30 hby3⟩) ?rm59
  case ry59 => first | exact Or.inl ⟨by rfl, by intro w'; go_simp; first | done | rfl⟩
  case rm59 =>
  simp only [Act.put, List.setIfInBounds_toArray, List.set_cons_zero, List.set_cons_succ]
  refine anyC_put 19 62 ?rv60 #[true, true, true, true, true, true, true, true, true, true, true, true, true, true, true, true, true, true, true, true, false, false, false, false, false, false, false, false, false, false, false, false, false, false, false, false, false, false, false, false, false] rfl rfl rfl (by kernel_rfl) (by kernel_rfl) (by kernel_rfl) (fun _ _ _ h => h) ?ry60 (⟨(B59.out.go hby3).c0, (B59.out.go hby3).c1, (B59.out.go hby3).c2, (B60.out.go hby3).c0, (B60.out.go hby3).c1, (B60.out.go hby3).c2, (B61.out.go hby3).c0, (B61.out.go hby3).c1, (B61.out.go hby3).c2, cell_to sx11 hby3, cell_to sx20 hby3, cell_to sx21 hby3, cell_to sx30 hby3⟩) ?rm60
  case ry60 => first | exact Or.inl ⟨by rfl, by intro w'; go_simp; first | done | rfl⟩
  case rm60 =>
  simp only [Act.put, List.setIfInBounds_toArray, List.set_cons_zero, List.set_cons_succ]
  refine anyC_put 20 63 ?rv61 #[true, true, true, true, true, true, true, true, true, true, true, true, true, true, true, true, true, true, true, true, true, false, false, false, false, false, false, false, false, false, false, false, false, false, false, false, false, false, false, false, false] rfl rfl rfl (by kernel_rfl) (by kernel_rfl) (by kernel_rfl) (fun _ _ _ h => h) ?ry61 (⟨(B59.out.go hby3).c0, (B59.out.go hby3).c1, (B59.out.go hby3).c2, (B60.out.go hby3).c0, (B60.out.go hby3).c1, (B60.out.go hby3).c2, (B61.out.go hby3).c0, (B61.out.go hby3).c1, (B61.out.go hby3).c2, cell_to sx11 hby3, cell_to sx20 hby3, cell_to sx21 hby3, cell_to sx30 hby3⟩) ?rm61
  case ry61 => first | exact Or.inl ⟨by rfl, by intro w'; go_simp; first | done | rfl⟩ | exact Or.inr ⟨by rfl, rfl⟩ | exact Or.inr ⟨by rfl, by rfl⟩
  case rm61 =>
  simp only [Act.put, List.setIfInBounds_toArray, List.set_cons_zero, List.set_cons_succ]
  refine anyC_take 21 64 ?rv62 #[true, true, true, true, true, true, true, true, true, true, true, true, true, true, true, true, true, true, true, true, true, true, false, false, false, false, false, false, false, false, false, false, false, false, false, false, false, false, false, false, false] rfl rfl rfl (by kernel_rfl) (by kernel_rfl) (by kernel_rfl) (fun _ _ _ h => h) ?ry62 (⟨(B59.out.go hby3).c0, (B59.out.go hby3).c1, (B59.out.go hby3).c2, (B60.out.go hby3).c0, (B60.out.go hby3).c1, (B60.out.go hby3).c2, (B61.out.go hby3).c0, (B61.out.go hby3).c1, (B61.out.go hby3).c2, cell_to sx11 hby3, cell_to sx20 hby3, cell_to sx21 hby3, cell_to sx30 hby3⟩) ?rm62
  case ry62 => first | exact Or.inl ⟨by rfl, by intro w' hw'; (try dsimp only at hw'); go_simp; first | done | rfl⟩ | exact Or.inr ⟨by rfl, rfl⟩ | exact Or.inr ⟨by rfl, by rfl⟩
  case rm62 =>
  simp only [Act.put, List.setIfInBounds_toArray, List.set_cons_zero, List.set_cons_succ]
  refine anyC_put 22 65 ?rv63 #[true, true, true, true, true, true, true, true, true, true, true, true, true, true, true, true, true, true, true, true, true, true, true, false, false, false, false, false, false, false, false, false, false, false, false, false, false, false, false, false, false] rfl rfl rfl (by kernel_rfl) (by kernel_rfl) (by kernel_rfl) (fun _ _ _ h => h) ?ry63 (⟨(B59.out.go hby3).c0, (B59.out.go hby3).c1, (B59.out.go hby3).c2, (B60.out.go hby3).c0, (B60.out.go hby3).c1, (B60.out.go hby3).c2, (B61.out.go hby3).c0, (B61.out.go hby3).c1, (B61.out.go hby3).c2, cell_to sx11 hby3, cell_to sx20 hby3, cell_to sx21 hby3, cell_to sx30 hby3⟩) ?rm63
  case ry63 => first | exact Or.inl ⟨by rfl, by intro w'; go_simp; first | done | rfl⟩ | exact Or.inr ⟨by rfl, rfl⟩ | exact Or.inr ⟨by rfl, by rfl⟩
  case rm63 =>
  simp only [Act.put, List.setIfInBounds_toArray, List.set_cons_zero, List.set_cons_succ]
  refine anyC_take 23 66 ?rv64 #[true, true, true, true, true, true, true, true, true, true, true, true, true, true, true, true, true, true, true, true, true, true, true, true, false, false, false, false, false, false, false, false, false, false, false, false, false, false, false, false, false] rfl rfl rfl (by kernel_rfl) (by kernel_rfl) (by kernel_rfl) (fun _ _ _ h => h) ?ry64 (⟨(B59.out.go hby3).c0, (B59.out.go hby3).c1, (B59.out.go hby3).c2, (B60.out.go hby3).c0, (B60.out.go hby3).c1, (B60.out.go hby3).c2, (B61.out.go hby3).c0, (B61.out.go hby3).c1, (B61.out.go hby3).c2, cell_to sx11 hby3, cell_to sx20 hby3, cell_to sx21 hby3, cell_to sx30 hby3⟩) ?rm64
  case ry64 => first | exact Or.inl ⟨by rfl, by intro w' hw'; (try dsimp only at hw'); go_simp; first | done | rfl⟩ | exact Or.inr ⟨by rfl, rfl⟩ | exact Or.inr ⟨by rfl, by rfl⟩
  case rm64 =>
  simp only [Act.put, List.setIfInBounds_toArray, List.set_cons_zero, List.set_cons_succ]
  refine anyC_put 24 67 ?rv65 #[true, true, true, true, true, true, true, true, true, true, true, true, true, true, true, true, true, true, true, true, true, true, true, true, true, false, false, false, false, false, false, false, false, false, false, false, false, false, false, false, false] rfl rfl rfl (by kernel_rfl) (by kernel_rfl) (by kernel_rfl) (fun _ _ _ h => h) ?ry65 (⟨(B59.out.go hby3).c0, (B59.out.go hby3).c1, (B59.out.go hby3).c2, (B60.out.go hby3).c0, (B60.out.go hby3).c1, (B60.out.go hby3).c2, (B61.out.go hby3).c0, (B61.out.go hby3).c1, (B61.out.go hby3).c2, cell_to sx11 hby3, cell_to sx20 hby3, cell_to sx21 hby3, cell_to sx30 hby3⟩) ?rm65
  case ry65 => first | exact Or.inl ⟨by rfl, by intro w'; go_simp; first | done | rfl⟩ | exact Or.inr ⟨by rfl, rfl⟩ | exact Or.inr ⟨by rfl, by rfl⟩
  case rm65 =>
  simp only [Act.put, List.setIfInBounds_toArray, List.set_cons_zero, List.set_cons_succ]
  refine anyC_take 25 68 ?rv66 #[true, true, true, true, true, true, true, true, true, true, true, true, true, true, true, true, true, true, true, true, true, true, true, true, true, true, false, false, false, false, false, false, false, false, false, false, false, false, false, false, false] rfl rfl rfl (by kernel_rfl) (by kernel_rfl) (by kernel_rfl) (fun _ _ _ h => h) ?ry66 (⟨(B59.out.go hby3).c0, (B59.out.go hby3).c1, (B59.out.go hby3).c2, (B60.out.go hby3).c0, (B60.out.go hby3).c1, (B60.out.go hby3).c2, (B61.out.go hby3).c0, (B61.out.go hby3).c1, (B61.out.go hby3).c2, cell_to sx11 hby3, cell_to sx20 hby3, cell_to sx21 hby3, cell_to sx30 hby3⟩) ?rm66
  case ry66 => first | exact Or.inl ⟨by rfl, by intro w' hw'; (try dsimp only at hw'); go_simp; first | done | rfl⟩ | exact Or.inr ⟨by rfl, rfl⟩ | exact Or.inr ⟨by rfl, by rfl⟩
  case rm66 =>
  simp only [Act.put, List.setIfInBounds_toArray, List.set_cons_zero, List.set_cons_succ]
  refine anyC_put 26 69 ?rv67 #[true, true, true, true, true, true, true, true, true, true, true, true, true, true, true, true, true, true, true, true, true, true, true, true, true, true, true, false, false, false, false, false, false, false, false, false, false, false, false, false, false] rfl rfl rfl (by kernel_rfl) (by kernel_rfl) (by kernel_rfl) (fun _ _ _ h => h) ?ry67 (⟨(B59.out.go hby3).c0, (B59.out.go hby3).c1, (B59.out.go hby3).c2, (B60.out.go hby3).c0, (B60.out.go hby3).c1, (B60.out.go hby3).c2, (B61.out.go hby3).c0, (B61.out.go hby3).c1, (B61.out.go hby3).c2, cell_to sx11 hby3, cell_to sx20 hby3, cell_to sx21 hby3, cell_to sx30 hby3⟩) ?rm67
  case ry67 => first | exact Or.inl ⟨by rfl, by intro w'; go_simp; first | done | rfl⟩ | exact Or.inr ⟨by rfl, rfl⟩ | exact Or.inr ⟨by rfl, by rfl⟩
  case rm67 =>
  simp only [Act.put, List.setIfInBounds_toArray, List.set_cons_zero, List.set_cons_succ]
  refine anyC_take 27 70 ?rv68 #[true, true, true, true, true, true, true, true, true, true, true, true, true, true, true, true, true, true, true, true, true, true, true, true, true, true, true, true, false, false, false, false, false, false, false, false, false, false, false, false, false] rfl rfl rfl (by kernel_rfl) (by kernel_rfl) (by kernel_rfl) (fun _ _ _ h => h) ?ry68 (⟨(B59.out.go hby3).c0, (B59.out.go hby3).c1, (B59.out.go hby3).c2, (B60.out.go hby3).c0, (B60.out.go hby3).c1, (B60.out.go hby3).c2, (B61.out.go hby3).c0, (B61.out.go hby3).c1, (B61.out.go hby3).c2, cell_to sx11 hby3, cell_to sx20 hby3, cell_to sx21 hby3, cell_to sx30 hby3⟩) ?rm68
  case ry68 => first | exact Or.inl ⟨by rfl, by intro w' hw'; (try dsimp only at hw'); go_simp; first | done | rfl⟩ | exact Or.inr ⟨by rfl, rfl⟩ | exact Or.inr ⟨by rfl, by rfl⟩
  case rm68 =>
  simp only [Act.put, List.setIfInBounds_toArray, List.set_cons_zero, List.set_cons_succ]
  refine anyC_put 28 71 ?rv69 #[true, true, true, true, true, true, true, true, true, true, true, true, true, true, true, true, true, true, true, true, true, true, true, true, true, true, true, true, true, false, false, false, false, false, false, false, false, false, false, false, false] rfl rfl rfl (by kernel_rfl) (by kernel_rfl) (by kernel_rfl) (fun _ _ _ h => h) ?ry69 (⟨(B59.out.go hby3).c0, (B59.out.go hby3).c1, (B59.out.go hby3).c2, (B60.out.go hby3).c0, (B60.out.go hby3).c1, (B60.out.go hby3).c2, (B61.out.go hby3).c0, (B61.out.go hby3).c1, (B61.out.go hby3).c2, cell_to sx11 hby3, cell_to sx20 hby3, cell_to sx21 hby3, cell_to sx30 hby3⟩) ?rm69
  case ry69 => first | exact Or.inl ⟨by rfl, by intro w'; go_simp; first | done | rfl⟩ | exact Or.inr ⟨by rfl, rfl⟩ | exact Or.inr ⟨by rfl, by rfl⟩
  case rm69 =>
  simp only [Act.put, List.setIfInBounds_toArray, List.set_cons_zero, List.set_cons_succ]
  refine anyC_put 29 72 ?rv70 #[true, true, true, true, true, true, true, true, true, true, true, true, true, true, true, true, true, true, true, true, true, true, true, true, true, true, true, true, true, true, false, false, false, false, false, false, false, false, false, false, false] rfl rfl rfl (by kernel_rfl) (by kernel_rfl) (by kernel_rfl) (fun _ _ _ h => h) ?ry70 (⟨(B59.out.go hby3).c0, (B59.out.go hby3).c1, (B59.out.go hby3).c2, (B60.out.go hby3).c0, (B60.out.go hby3).c1, (B60.out.go hby3).c2, (B61.out.go hby3).c0, (B61.out.go hby3).c1, (B61.out.go hby3).c2, cell_to sx11 hby3, cell_to sx20 hby3, cell_to sx21 hby3, cell_to sx30 hby3⟩) ?rm70
  case ry70 => first | exact Or.inl ⟨by rfl, by intro w'; go_simp; first | done | rfl⟩
  case rm70 =>
  simp only [Act.put, List.setIfInBounds_toArray, List.set_cons_zero, List.set_cons_succ]
  refine anyC_put 30 73 ?rv71 #[true, true, true, true, true, true, true, true, true, true, true, true, true, true, true, true, true, true, true, true, true, true, true, true, true, true, true, true, true, true, true, false, false, false, false, false, false, false, false, false, false] rfl rfl rfl (by kernel_rfl) (by kernel_rfl) (by kernel_rfl) (fun _ _ _ h => h) ?ry71 (⟨(B59.out.go hby3).c0, (B59.out.go hby3).c1, (B59.out.go hby3).c2, (B60.out.go hby3).c0, (B60.out.go hby3).c1, (B60.out.go hby3).c2, (B61.out.go hby3).c0, (B61.out.go hby3).c1, (B61.out.go hby3).c2, cell_to sx11 hby3, cell_to sx20 hby3, cell_to sx21 hby3, cell_to sx30 hby3⟩) ?rm71
  case ry71 => first | exact Or.inl ⟨by rfl, by intro w'; go_simp; first | done | rfl⟩
  case rm71 =>
  simp only [Act.put, List.setIfInBounds_toArray, List.set_cons_zero, List.set_cons_succ]
  refine anyC_put 31 74 ?rv72 #[true, true, true, true, true, true, true, true, true, true, true, true, true, true, true, true, true, true, true, true, true, true, true, true, true, true, true, true, true, true, true, true, false, false, false, false, false, false, false, false, false] rfl rfl rfl (by kernel_rfl) (by kernel_rfl) (by kernel_rfl) (fun _ _ _ h => h) ?ry72 (⟨(B59.out.go hby3).c0, (B59.out.go hby3).c1, (B59.out.go hby3).c2, (B60.out.go hby3).c0, (B60.out.go hby3).c1, (B60.out.go hby3).c2, (B61.out.go hby3).c0, (B61.out.go hby3).c1, (B61.out.go hby3).c2, cell_to sx11 hby3, cell_to sx20 hby3, cell_to sx21 hby3, cell_to sx30 hby3⟩) ?rm72
  case ry72 => first | exact Or.inl ⟨by rfl, by intro w'; go_simp; first | done | rfl⟩ | exact Or.inr ⟨by rfl, rfl⟩ | exact Or.inr ⟨by rfl, by rfl⟩
  case rm72 =>
  simp only [Act.put, List.setIfInBounds_toArray, List.set_cons_zero, List.set_cons_succ]
  refine anyC_take 32 75 ?rv73 #[true, true, true, true, true, true, true, true, true, true, true, true, true, true, true, true, true, true, true, true, true, true, true, true, true, true, true, true, true, true, true, true, true, false, false, false, false, false, false, false, false] rfl rfl rfl (by kernel_rfl) (by kernel_rfl) (by kernel_rfl) (fun _ _ _ h => h) ?ry73 (⟨(B59.out.go hby3).c0, (B59.out.go hby3).c1, (B59.out.go hby3).c2, (B60.out.go hby3).c0, (B60.out.go hby3).c1, (B60.out.go hby3).c2, (B61.out.go hby3).c0, (B61.out.go hby3).c1, (B61.out.go hby3).c2, cell_to sx11 hby3, cell_to sx20 hby3, cell_to sx21 hby3, cell_to sx30 hby3⟩) ?rm73
  case ry73 => first | exact Or.inl ⟨by rfl, by intro w' hw'; (try dsimp only at hw'); go_simp; first | done | rfl⟩ | exact Or.inr ⟨by rfl, rfl⟩ | exact Or.inr ⟨by rfl, by rfl⟩
  case rm73 =>
  simp only [Act.put, List.setIfInBounds_toArray, List.set_cons_zero, List.set_cons_succ]
  refine anyC_put 33 76 ?rv74 #[true, true, true, true, true, true, true, true, true, true, true, true, true, true, true, true, true, true, true, true, true, true, true, true, true, true, true, true, true, true, true, true, true, true, false, false, false, false, false, false, false] rfl rfl rfl (by kernel_rfl) (by kernel_rfl) (by kernel_rfl) (fun _ _ _ h => h) ?ry74 (⟨(B59.out.go hby3).c0, (B59.out.go hby3).c1, (B59.out.go hby3).c2, (B60.out.go hby3).c0, (B60.out.go hby3).c1, (B60.out.go hby3).c2, (B61.out.go hby3).c0, (B61.out.go hby3).c1, (B61.out.go hby3).c2, cell_to sx11 hby3, cell_to sx20 hby3, cell_to sx21 hby3, cell_to sx30 hby3⟩) ?rm74
  case ry74 => first | exact Or.inl ⟨by rfl, by intro w'; go_simp; first | done | rfl⟩ | exact Or.inr ⟨by rfl, rfl⟩ | exact Or.inr ⟨by rfl, by rfl⟩
  case rm74 =>
  simp only [Act.put, List.setIfInBounds_toArray, List.set_cons_zero, List.set_cons_succ]
  refine anyC_take 34 77 ?rv75 #[true, true, true, true, true, true, true, true, true, true, true, true, true, true, true, true, true, true, true, true, true, true, true, true, true, true, true, true, true, true, true, true, true, true, true, false, false, false, false, false, false] rfl rfl rfl (by kernel_rfl) (by kernel_rfl) (by kernel_rfl) (fun _ _ _ h => h) ?ry75 (⟨(B59.out.go hby3).c0, (B59.out.go hby3).c1, (B59.out.go hby3).c2, (B60.out.go hby3).c0, (B60.out.go hby3).c1, (B60.out.go hby3).c2, (B61.out.go hby3).c0, (B61.out.go hby3).c1, (B61.out.go hby3).c2, cell_to sx11 hby3, cell_to sx20 hby3, cell_to sx21 hby3, cell_to sx30 hby3⟩) ?rm75
  case ry75 => first | exact Or.inl ⟨by rfl, by intro w' hw'; (try dsimp only at hw'); go_simp; first | done | rfl⟩ | exact Or.inr ⟨by rfl, rfl⟩ | exact Or.inr ⟨by rfl, by rfl⟩
  case rm75 =>
  simp only [Act.put, List.setIfInBounds_toArray, List.set_cons_zero, List.set_cons_succ]
  refine anyC_put 35 78 ?rv76 #[true, true, true, true, true, true, true, true, true, true, true, true, true, true, true, true, true, true, true, true, true, true, true, true, true, true, true, true, true, true, true, true, true, true, true, true, false, false, false, false, false] rfl rfl rfl (by kernel_rfl) (by kernel_rfl) (by kernel_rfl) (fun _ _ _ h => h) ?ry76 (⟨(B59.out.go hby3).c0, (B59.out.go hby3).c1, (B59.out.go hby3).c2, (B60.out.go hby3).c0, (B60.out.go hby3).c1, (B60.out.go hby3).c2, (B61.out.go hby3).c0, (B61.out.go hby3).c1, (B61.out.go hby3).c2, cell_to sx11 hby3, cell_to sx20 hby3, cell_to sx21 hby3, cell_to sx30 hby3⟩) ?rm76
  case ry76 => first | exact Or.inl ⟨by rfl, by intro w'; go_simp; first | done | rfl⟩ | exact Or.inr ⟨by rfl, rfl⟩ | exact Or.inr ⟨by rfl, by rfl⟩
  case rm76 =>
  simp only [Act.put, List.setIfInBounds_toArray, List.set_cons_zero, List.set_cons_succ]
  refine anyC_take 36 79 ?rv77 #[true, true, true, true, true, true, true, true, true, true, true, true, true, true, true, true, true, true, true, true, true, true, true, true, true, true, true, true, true, true, true, true, true, true, true, true, true, false, false, false, false] rfl rfl rfl (by kernel_rfl) (by kernel_rfl) (by kernel_rfl) (fun _ _ _ h => h) ?ry77 (⟨(B59.out.go hby3).c0, (B59.out.go hby3).c1, (B59.out.go hby3).c2, (B60.out.go hby3).c0, (B60.out.go hby3).c1, (B60.out.go hby3).c2, (B61.out.go hby3).c0, (B61.out.go hby3).c1, (B61.out.go hby3).c2, cell_to sx11 hby3, cell_to sx20 hby3, cell_to sx21 hby3, cell_to sx30 hby3⟩) ?rm77
  case ry77 => first | exact Or.inl ⟨by rfl, by intro w' hw'; (try dsimp only at hw'); go_simp; first | done | rfl⟩ | exact Or.inr ⟨by rfl, rfl⟩ | exact Or.inr ⟨by rfl, by rfl⟩
  case rm77 =>
  simp only [Act.put, List.setIfInBounds_toArray, List.set_cons_zero, List.set_cons_succ]
  refine anyC_put 37 80 ?rv78 #[true, true, true, true, true, true, true, true, true, true, true, true, true, true, true, true, true, true, true, true, true, true, true, true, true, true, true, true, true, true, true, true, true, true, true, true, true, true, false, false, false] rfl rfl rfl (by kernel_rfl) (by kernel_rfl) (by kernel_rfl) (fun _ _ _ h => h) ?ry78 (⟨(B59.out.go hby3).c0, (B59.out.go hby3).c1, (B59.out.go hby3).c2, (B60.out.go hby3).c0, (B60.out.go hby3).c1, (B60.out.go hby3).c2, (B61.out.go hby3).c0, (B61.out.go hby3).c1, (B61.out.go hby3).c2, cell_to sx11 hby3, cell_to sx20 hby3, cell_to sx21 hby3, cell_to sx30 hby3⟩) ?rm78
  case ry78 => first | exact Or.inl ⟨by rfl, by intro w'; go_simp; first | done | rfl⟩ | exact Or.inr ⟨by rfl, rfl⟩ | exact Or.inr ⟨by rfl, by rfl⟩
  case rm78 =>
  simp only [Act.put, List.setIfInBounds_toArray, List.set_cons_zero, List.set_cons_succ]
  refine anyC_take 38 81 ?rv79 #[true, true, true, true, true, true, true, true, true, true, true, true, true, true, true, true, true, true, true, true, true, true, true, true, true, true, true, true, true, true, true, true, true, true, true, true, true, true, true, false, false] rfl rfl rfl (by kernel_rfl) (by kernel_rfl) (by kernel_rfl) (fun _ _ _ h => h) ?ry79 (⟨(B59.out.go hby3).c0, (B59.out.go hby3).c1, (B59.out.go hby3).c2, (B60.out.go hby3).c0, (B60.out.go hby3).c1, (B60.out.go hby3).c2, (B61.out.go hby3).c0, (B61.out.go hby3).c1, (B61.out.go hby3).c2, cell_to sx11 hby3, cell_to sx20 hby3, cell_to sx21 hby3, cell_to sx30 hby3⟩) ?rm79
  case ry79 => first | exact Or.inl ⟨by rfl, by intro w' hw'; (try dsimp only at hw'); go_simp; first | done | rfl⟩ | exact Or.inr ⟨by rfl, rfl⟩ | exact Or.inr ⟨by rfl, by rfl⟩
  case rm79 =>
  simp only [Act.put, List.setIfInBounds_toArray, List.set_cons_zero, List.set_cons_succ]
  refine anyC_put 39 82 ?rv80 #[true, true, true, true, true, true, true, true, true, true, true, true, true, true, true, true, true, true, true, true, true, true, true, true, true, true, true, true, true, true, true, true, true, true, true, true, true, true, true, true, false] rfl rfl rfl (by kernel_rfl) (by kernel_rfl) (by kernel_rfl) (fun _ _ _ h => h) ?ry80 (⟨(B59.out.go hby3).c0, (B59.out.go hby3).c1, (B59.out.go hby3).c2, (B60.out.go hby3).c0, (B60.out.go hby3).c1, (B60.out.go hby3).c2, (B61.out.go hby3).c0, (B61.out.go hby3).c1, (B61.out.go hby3).c2, cell_to sx11 hby3, cell_to sx20 hby3, cell_to sx21 hby3, cell_to sx30 hby3⟩) ?rm80
  case ry80 => first | exact Or.inl ⟨by rfl, by intro w'; go_simp; first | done | rfl⟩ | exact Or.inr ⟨by rfl, rfl⟩ | exact Or.inr ⟨by rfl, by rfl⟩
  case rm80 =>
  simp only [Act.put, List.setIfInBounds_toArray, List.set_cons_zero, List.set_cons_succ]
  refine anyC_put 40 83 ?rv81 #[true, true, true, true, true, true, true, true, true, true, true, true, true, true, true, true, true, true, true, true, true, true, true, true, true, true, true, true, true, true, true, true, true, true, true, true, true, true, true, true, true] rfl rfl rfl (by kernel_rfl) (by kernel_rfl) (by kernel_rfl) (fun _ _ _ h => h) ?ry81 (⟨(B59.out.go hby3).c0, (B59.out.go hby3).c1, (B59.out.go hby3).c2, (B60.out.go hby3).c0, (B60.out.go hby3).c1, (B60.out.go hby3).c2, (B61.out.go hby3).c0, (B61.out.go hby3).c1, (B61.out.go hby3).c2, cell_to sx11 hby3, cell_to sx20 hby3, cell_to sx21 hby3, cell_to sx30 hby3⟩) ?rm81
  case ry81 => first | exact Or.inl ⟨by rfl, by intro w'; go_simp; first | done | rfl⟩
  case rm81 =>
  simp only [Act.put, List.setIfInBounds_toArray, List.set_cons_zero, List.set_cons_succ]
  refine anyC_done (by kernel_rfl) ?_
  have hB := hby3
  have z66 : wo57.heap.size ≤ y3.heap.size := hB.size
  have B67 : Hid (Abx y3 (w.heap.size) (.bool false) (.slice (some ⟨b1, o1, none⟩) sz1.length sc1) (.slice da1 dz1.length dc1)) := B59.out.go hB
  have B68 : Hid (Abx y3 (w.heap.size + 1) (.bool false) (.slice (some ⟨b2, o2, none⟩) sz2.length sc2) (.slice da2 dz2.length dc2)) := B60.out.go hB
  have B69 : Hid (Abx y3 (w.heap.size + 1 + 1) (.bool false) (.slice (some ⟨b3, o3, none⟩) sz3.length sc3) (.slice da3 dz3.length dc3)) := B61.out.go hB
  have hb70 : Hid (Below w.heap.size w y3) := hb65.out.trans (hB.mono hb65.out.size)
  clear hB hb65 B59 B60 B61
  go_wp2_with fail
  go_ret
  exact ⟨rfl, hb70.out⟩
set_option maxRecDepth 100000 in
set_option maxHeartbeats 4000000 in
theorem chain_ok (HNi : CNi) (f g : Int) (hf : In64 f) (hg : In64 g) (c1 : Bool) (sa1 : Option Addr) (sc1 : Nat) (sz1 : List Int) (da1 : Option Addr) (dc1 : Nat) (dz1 : List Int) (c2 : Bool) (sa2 : Option Addr) (sc2 : Nat) (sz2 : List Int) (da2 : Option Addr) (dc2 : Nat) (dz2 : List Int) (c3 : Bool) (sa3 : Option Addr) (sc3 : Nat) (sz3 : List Int) (da3 : Option Addr) (dc3 : Nat) (dz3 : List Int) (w : World) (w8 : IsArrD w sa1 sz1 sc1 da1 dz1 dc1) (w9 : IsArrD w sa2 sz2 sc2 da2 dz2 dc2) (w10 : IsArrD w sa3 sz3 sc3 da3 dz3 dc3) (GS : Hid (Srg f g)) (G1 : Hid (GrdP 16 c1 sz1 dz1)) (G2 : Hid (GrdP 16 c2 sz2 dz2)) (G3 : Hid (GrdP 16 c3 sz3 dz3)) (E1 : Hid (nth sz1 1 = nth sz2 0)) (E2 : Hid (nth sz2 1 = nth sz3 0)) :
    Calls Try.prog 3 #[.int .i64 f, .int .i64 g, .agg #[.bool c1, .slice sa1 sz1.length sc1, .slice da1 dz1.length dc1], .agg #[.bool c2, .slice sa2 sz2.length sc2, .slice da2 dz2.length dc2], .agg #[.bool c3, .slice sa3 sz3.length sc3, .slice da3 dz3.length dc3]] w fun e w' => e = .returned (.bool true) ∧ Below w.heap.size w w' := by
  obtain ⟨b1, o1, rfl, hq1, hc1⟩ := w8.2.2.1.1.at (q := 0) (by rw [G1.out.2.1]; decide)
  have hcf1 := G1.out.1
  subst hcf1
  obtain ⟨m1, hm1⟩ : ∃ m, m = nth sz1 0 := ⟨_, rfl⟩
  obtain ⟨n1, hn1⟩ : ∃ n, n = nth sz1 1 := ⟨_, rfl⟩
  have HC1 : Hid (b1 < w.heap.size ∧ w.cell? ⟨b1, o1, none⟩ = some (.int .i64 m1) ∧ w.cell? ⟨b1, o1 + 1, none⟩ = some (.int .i64 n1)) := ⟨hq1, by have := hc1 0 (by rw [G1.out.2.1]; decide); rw [Nat.add_zero, ← hm1] at this; exact this, by rw [hn1]; exact hc1 1 (by rw [G1.out.2.1]; decide)⟩
  have HM1 : Hid (m1 = nth sz1 0 ∧ n1 = nth sz1 1) := ⟨hm1, hn1⟩
  have hz1 : sz1.length = 2 := G1.out.2.1
  have HZ1 : Hid (sz1.length = 2) := hz1
  have lz1 : 1 < sz1.length := by omega
  have ly1 : 0 < sz1.length := by omega
  have lw1 : (1 : Int) < (sz1.length : Int) := by omega
  have lv1 : (0 : Int) < (sz1.length : Int) := by omega
  clear hq1 hc1 hm1 hn1 hz1
  obtain ⟨b2, o2, rfl, hq2, hc2⟩ := w9.2.2.1.1.at (q := 0) (by rw [G2.out.2.1]; decide)
  have hcf2 := G2.out.1
  subst hcf2
  obtain ⟨m2, hm2⟩ : ∃ m, m = nth sz2 0 := ⟨_, rfl⟩
  obtain ⟨n2, hn2⟩ : ∃ n, n = nth sz2 1 := ⟨_, rfl⟩
  have HC2 : Hid (b2 < w.heap.size ∧ w.cell? ⟨b2, o2, none⟩ = some (.int .i64 m2) ∧ w.cell? ⟨b2, o2 + 1, none⟩ = some (.int .i64 n2)) := ⟨hq2, by have := hc2 0 (by rw [G2.out.2.1]; decide); rw [Nat.add_zero, ← hm2] at this; exact this, by rw [hn2]; exact hc2 1 (by rw [G2.out.2.1]; decide)⟩
  have HM2 : Hid (m2 = nth sz2 0 ∧ n2 = nth sz2 1) := ⟨hm2, hn2⟩
  have hz2 : sz2.length = 2 := G2.out.2.1
  have HZ2 : Hid (sz2.length = 2) := hz2
  have lz2 : 1 < sz2.length := by omega
  have ly2 : 0 < sz2.length := by omega
  have lw2 : (1 : Int) < (sz2.length : Int) := by omega
  have lv2 : (0 : Int) < (sz2.length : Int) := by omega
  clear hq2 hc2 hm2 hn2 hz2
  obtain ⟨b3, o3, rfl, hq3, hc3⟩ := w10.2.2.1.1.at (q := 0) (by rw [G3.out.2.1]; decide)
  have hcf3 := G3.out.1
  subst hcf3
  obtain ⟨m3, hm3⟩ : ∃ m, m = nth sz3 0 := ⟨_, rfl⟩
  obtain ⟨n3, hn3⟩ : ∃ n, n = nth sz3 1 := ⟨_, rfl⟩
  have HC3 : Hid (b3 < w.heap.size ∧ w.cell? ⟨b3, o3, none⟩ = some (.int .i64 m3) ∧ w.cell? ⟨b3, o3 + 1, none⟩ = some (.int .i64 n3)) := ⟨hq3, by have := hc3 0 (by rw [G3.out.2.1]; decide); rw [Nat.add_zero, ← hm3] at this; exact this, by rw [hn3]; exact hc3 1 (by rw [G3.out.2.1]; decide)⟩
  have HM3 : Hid (m3 = nth sz3 0 ∧ n3 = nth sz3 1) := ⟨hm3, hn3⟩
  have hz3 : sz3.length = 2 := G3.out.2.1
  have HZ3 : Hid (sz3.length = 2) := hz3
  have lz3 : 1 < sz3.length := by omega
  have ly3 : 0 < sz3.length := by omega
  have lw3 : (1 : Int) < (sz3.length : Int) := by omega
  have lv3 : (0 : Int) < (sz3.length : Int) := by omega
  clear hq3 hc3 hm3 hn3 hz3
  have t1 : (n1 != m2) = false := by rw [HM1.out.2, HM2.out.1, E1.out]; simp
  have t2 : (n2 != m3) = false := by rw [HM2.out.2, HM3.out.1, E2.out]; simp
  obtain ⟨S1, D1, S2, D2, S3, D3, R1, R2, R3, R4, TT, L1, L2, L3⟩ := chain13 GS.out G1.out G2.out G3.out E1.out E2.out w8.2.2.2.2.2 w9.2.2.2.2.2 w10.2.2.2.2.2
  have HR1 : Hid (_) := R1
  have HR2 : Hid (_) := R2
  have HR3 : Hid (_) := R3
  have HR4 : Hid (_) := R4
  have HTT : Hid (_) := TT
  clear R1 R2 R3 R4 TT
  obtain ⟨x11, x12, x3, x4, s64, T⟩ := w8
  have HI1 : Hid (IsC w.heap.size w (some ⟨b1, o1, none⟩) sz1 sc1 ∧ IsC w.heap.size w da1 dz1 dc1 ∧ (∀ j, In64 (nth sz1 j)) ∧ ∀ j, In64 (nth dz1 j)) := ⟨x3, x4, s64, T⟩
  clear x3 x4 T s64
  obtain ⟨x21, x22, x3, x4, s64, T⟩ := w9
  have HI2 : Hid (IsC w.heap.size w (some ⟨b2, o2, none⟩) sz2 sc2 ∧ IsC w.heap.size w da2 dz2 dc2 ∧ (∀ j, In64 (nth sz2 j)) ∧ ∀ j, In64 (nth dz2 j)) := ⟨x3, x4, s64, T⟩
  clear x3 x4 T s64
  obtain ⟨x31, x32, x3, x4, s64, T⟩ := w10
  have HI3 : Hid (IsC w.heap.size w (some ⟨b3, o3, none⟩) sz3 sc3 ∧ IsC w.heap.size w da3 dz3 dc3 ∧ (∀ j, In64 (nth sz3 j)) ∧ ∀ j, In64 (nth dz3 j)) := ⟨x3, x4, s64, T⟩
  clear x3 x4 T s64
  have n1 := Abx.new w (.bool false) (.slice (some ⟨b1, o1, none⟩) sz1.length sc1) (.slice da1 dz1.length dc1)
  have n2 := Abx.new (w.alloc (.cells #[.bool false, .slice (some ⟨b1, o1, none⟩) sz1.length sc1, .slice da1 dz1.length dc1] 25)) (.bool false) (.slice (some ⟨b2, o2, none⟩) sz2.length sc2) (.slice da2 dz2.length dc2)
  simp only [World.size_alloc] at n2
  have n3 := Abx.new ((w.alloc (.cells #[.bool false, .slice (some ⟨b1, o1, none⟩) sz1.length sc1, .slice da1 dz1.length dc1] 25)).alloc (.cells #[.bool false, .slice (some ⟨b2, o2, none⟩) sz2.length sc2, .slice da2 dz2.length dc2] 25)) (.bool false) (.slice (some ⟨b3, o3, none⟩) sz3.length sc3) (.slice da3 dz3.length dc3)
  simp only [World.size_alloc] at n3
  have n4 := lit_mid (((w.alloc (.cells #[.bool false, .slice (some ⟨b1, o1, none⟩) sz1.length sc1, .slice da1 dz1.length dc1] 25)).alloc (.cells #[.bool false, .slice (some ⟨b2, o2, none⟩) sz2.length sc2, .slice da2 dz2.length dc2] 25)).alloc (.cells #[.bool false, .slice (some ⟨b3, o3, none⟩) sz3.length sc3, .slice da3 dz3.length dc3] 25)) 3 [1, 2, 3] 3 rfl
  simp only [World.size_alloc, List.map_cons, List.map_nil] at n4
  go_enter Try.func3, Try.ntmps3
  go_wp2_with fail
  obtain ⟨wo5, hwo5⟩ : ∃ wo5, wo5 = ((((w.alloc (.cells #[.bool false, .slice (some ⟨b1, o1, none⟩) sz1.length sc1, .slice da1 dz1.length dc1] 25)).alloc (.cells #[.bool false, .slice (some ⟨b2, o2, none⟩) sz2.length sc2, .slice da2 dz2.length dc2] 25)).alloc (.cells #[.bool false, .slice (some ⟨b3, o3, none⟩) sz3.length sc3, .slice da3 dz3.length dc3] 25)).alloc (.cells #[.int .i64 1, .int .i64 2, .int .i64 3] 3)) := ⟨_, rfl⟩
  rw [← hwo5]
  have z6 : w.heap.size + 1 + 1 + 1 + 1 ≤ wo5.heap.size := by rw [hwo5]; simp only [World.size_alloc]; omega
  have B7 : Hid (Abx wo5 (w.heap.size) (.bool false) (.slice (some ⟨b1, o1, none⟩) sz1.length sc1) (.slice da1 dz1.length dc1)) := by rw [hwo5]; exact (((n1.al (.cells #[.bool false, .slice (some ⟨b2, o2, none⟩) sz2.length sc2, .slice da2 dz2.length dc2] 25)).al (.cells #[.bool false, .slice (some ⟨b3, o3, none⟩) sz3.length sc3, .slice da3 dz3.length dc3] 25)).al (.cells #[.int .i64 1, .int .i64 2, .int .i64 3] 3))
  have B8 : Hid (Abx wo5 (w.heap.size + 1) (.bool false) (.slice (some ⟨b2, o2, none⟩) sz2.length sc2) (.slice da2 dz2.length dc2)) := by rw [hwo5]; exact ((n2.al (.cells #[.bool false, .slice (some ⟨b3, o3, none⟩) sz3.length sc3, .slice da3 dz3.length dc3] 25)).al (.cells #[.int .i64 1, .int .i64 2, .int .i64 3] 3))
  have B9 : Hid (Abx wo5 (w.heap.size + 1 + 1) (.bool false) (.slice (some ⟨b3, o3, none⟩) sz3.length sc3) (.slice da3 dz3.length dc3)) := by rw [hwo5]; exact (n3.al (.cells #[.int .i64 1, .int .i64 2, .int .i64 3] 3))
  have L10 : Hid (MidC (w.heap.size + 1 + 1 + 1) (w.heap.size + 1 + 1 + 1 + 1) wo5 (some ⟨w.heap.size + 1 + 1 + 1, 0, none⟩) ([1, 2, 3]) (3)) := by rw [hwo5]; exact n4
  have hb11 : Hid (Below w.heap.size w wo5) := by rw [hwo5]; exact (((((Below.refl w.heap.size w).alloc (by omega) (.cells #[.bool false, .slice (some ⟨b1, o1, none⟩) sz1.length sc1, .slice da1 dz1.length dc1] 25)).alloc (by simp only [World.size_alloc]; omega) (.cells #[.bool false, .slice (some ⟨b2, o2, none⟩) sz2.length sc2, .slice da2 dz2.length dc2] 25)).alloc (by simp only [World.size_alloc]; omega) (.cells #[.bool false, .slice (some ⟨b3, o3, none⟩) sz3.length sc3, .slice da3 dz3.length dc3] 25)).alloc (by simp only [World.size_alloc]; omega) (.cells #[.int .i64 1, .int .i64 2, .int .i64 3] 3))
  have zwo5 : w.heap.size ≤ wo5.heap.size := hb11.out.size
  clear hwo5 n1 n2 n3 n4
  refine (vec_c (some ⟨w.heap.size + 1 + 1 + 1, 0, none⟩) 3 [1, 2, 3] (by simp) _ (L10.out.is (by omega)).1).mono ?_
  rintro e v1 ⟨vap, vcp, gap, gcp, rfl, hVp, hGp, hB⟩
  have z12 : wo5.heap.size ≤ v1.heap.size := hB.size
  have B13 : Hid (Abx v1 (w.heap.size) (.bool false) (.slice (some ⟨b1, o1, none⟩) sz1.length sc1) (.slice da1 dz1.length dc1)) := B7.out.go hB
  have B14 : Hid (Abx v1 (w.heap.size + 1) (.bool false) (.slice (some ⟨b2, o2, none⟩) sz2.length sc2) (.slice da2 dz2.length dc2)) := B8.out.go hB
  have B15 : Hid (Abx v1 (w.heap.size + 1 + 1) (.bool false) (.slice (some ⟨b3, o3, none⟩) sz3.length sc3) (.slice da3 dz3.length dc3)) := B9.out.go hB
  have L16 : Hid (MidC (w.heap.size + 1 + 1 + 1) (w.heap.size + 1 + 1 + 1 + 1) v1 (some ⟨w.heap.size + 1 + 1 + 1, 0, none⟩) ([1, 2, 3]) (3)) := L10.out.go (by omega) hB
  have hb17 : Hid (Below w.heap.size w v1) := hb11.out.trans (hB.mono hb11.out.size)
  have L18 : Hid (MidC (wo5.heap.size) (v1.heap.size) v1 (vap) ([(3 : Int)]) (vcp)) := hVp.midc
  have L19 : Hid (MidC (wo5.heap.size) (v1.heap.size) v1 (gap) ([1, 2, 3]) (gcp)) := hGp.midc
  clear hB hb11 B7 B8 B9 L10 hVp hGp
  clear L16
  have n20 := lit_mid v1 3 [4, 5, 6] 3 rfl
  simp only [List.map_cons, List.map_nil] at n20
  go_wp2_with fail
  obtain ⟨wo21, hwo21⟩ : ∃ wo21, wo21 = (v1.alloc (.cells #[.int .i64 4, .int .i64 5, .int .i64 6] 3)) := ⟨_, rfl⟩
  rw [← hwo21]
  have z22 : v1.heap.size + 1 ≤ wo21.heap.size := by rw [hwo21]; simp only [World.size_alloc]; omega
  have B23 : Hid (Abx wo21 (w.heap.size) (.bool false) (.slice (some ⟨b1, o1, none⟩) sz1.length sc1) (.slice da1 dz1.length dc1)) := by rw [hwo21]; exact (B13.out.al (.cells #[.int .i64 4, .int .i64 5, .int .i64 6] 3))
  have B24 : Hid (Abx wo21 (w.heap.size + 1) (.bool false) (.slice (some ⟨b2, o2, none⟩) sz2.length sc2) (.slice da2 dz2.length dc2)) := by rw [hwo21]; exact (B14.out.al (.cells #[.int .i64 4, .int .i64 5, .int .i64 6] 3))
  have B25 : Hid (Abx wo21 (w.heap.size + 1 + 1) (.bool false) (.slice (some ⟨b3, o3, none⟩) sz3.length sc3) (.slice da3 dz3.length dc3)) := by rw [hwo21]; exact (B15.out.al (.cells #[.int .i64 4, .int .i64 5, .int .i64 6] 3))
  have L26 : Hid (MidC (wo5.heap.size) (v1.heap.size) wo21 (vap) ([(3 : Int)]) (vcp)) := by rw [hwo21]; exact (L18.out.al (by omega) (.cells #[.int .i64 4, .int .i64 5, .int .i64 6] 3))
  have L27 : Hid (MidC (wo5.heap.size) (v1.heap.size) wo21 (gap) ([1, 2, 3]) (gcp)) := by rw [hwo21]; exact (L19.out.al (by omega) (.cells #[.int .i64 4, .int .i64 5, .int .i64 6] 3))
  have L28 : Hid (MidC (v1.heap.size) (v1.heap.size + 1) wo21 (some ⟨v1.heap.size, 0, none⟩) ([4, 5, 6]) (3)) := by rw [hwo21]; exact n20
  have hb29 : Hid (Below w.heap.size w wo21) := by rw [hwo21]; exact (hb17.out.alloc (by omega) (.cells #[.int .i64 4, .int .i64 5, .int .i64 6] 3))
  have zwo21 : w.heap.size ≤ wo21.heap.size := hb29.out.size
  clear hwo21 n20 hb17 B13 B14 B15 L18 L19
  refine (vec_c (some ⟨v1.heap.size, 0, none⟩) 3 [4, 5, 6] (by simp) _ (L28.out.is (by omega)).1).mono ?_
  rintro e v2 ⟨vaq, vcq, gaq, gcq, rfl, hVq, hGq, hB⟩
  have z30 : wo21.heap.size ≤ v2.heap.size := hB.size
  have B31 : Hid (Abx v2 (w.heap.size) (.bool false) (.slice (some ⟨b1, o1, none⟩) sz1.length sc1) (.slice da1 dz1.length dc1)) := B23.out.go hB
  have B32 : Hid (Abx v2 (w.heap.size + 1) (.bool false) (.slice (some ⟨b2, o2, none⟩) sz2.length sc2) (.slice da2 dz2.length dc2)) := B24.out.go hB
  have B33 : Hid (Abx v2 (w.heap.size + 1 + 1) (.bool false) (.slice (some ⟨b3, o3, none⟩) sz3.length sc3) (.slice da3 dz3.length dc3)) := B25.out.go hB
  have L34 : Hid (MidC (wo5.heap.size) (v1.heap.size) v2 (vap) ([(3 : Int)]) (vcp)) := L26.out.go (by omega) hB
  have L35 : Hid (MidC (wo5.heap.size) (v1.heap.size) v2 (gap) ([1, 2, 3]) (gcp)) := L27.out.go (by omega) hB
  have L36 : Hid (MidC (v1.heap.size) (v1.heap.size + 1) v2 (some ⟨v1.heap.size, 0, none⟩) ([4, 5, 6]) (3)) := L28.out.go (by omega) hB
  have hb37 : Hid (Below w.heap.size w v2) := hb29.out.trans (hB.mono hb29.out.size)
  have L38 : Hid (MidC (wo21.heap.size) (v2.heap.size) v2 (vaq) ([(3 : Int)]) (vcq)) := hVq.midc
  have L39 : Hid (MidC (wo21.heap.size) (v2.heap.size) v2 (gaq) ([4, 5, 6]) (gcq)) := hGq.midc
  clear hB hb29 B23 B24 B25 L26 L27 L28 hVq hGq
  clear L36
  go_wp2_with fail
  refine (niw_ok 1 3 false vap vcp [(3 : Int)] 1 rfl gap gcp [1, 2, 3] 3 rfl false vaq vcq [(3 : Int)] 1 rfl gaq gcq [4, 5, 6] 3 rfl _ (by unfold In64; decide) (by unfold In64; decide) (by decide) (by decide) (L34.out.is (by omega)) (L35.out.is (by omega)).1 (lit12 (by decide)) (by decide) (by decide) (L38.out.is (by omega)) (L39.out.is (by omega)).1 (lit12 (by decide)) [] [32] HNi (by show inE 1 3 false [(3 : Int)] [1, 2, 3] false [(3 : Int)] [4, 5, 6] = 0 ∧ inS [(3 : Int)] [(3 : Int)] = [] ∧ inD 1 3 false [(3 : Int)] [1, 2, 3] false [(3 : Int)] [4, 5, 6] = [32]; decide +kernel)).mono ?_
  rintro e v3 ⟨f1, g1, f2, g2, rfl, hX0, hY0, hB⟩
  have z40 : v2.heap.size ≤ v3.heap.size := hB.size
  have B41 : Hid (Abx v3 (w.heap.size) (.bool false) (.slice (some ⟨b1, o1, none⟩) sz1.length sc1) (.slice da1 dz1.length dc1)) := B31.out.go hB
  have B42 : Hid (Abx v3 (w.heap.size + 1) (.bool false) (.slice (some ⟨b2, o2, none⟩) sz2.length sc2) (.slice da2 dz2.length dc2)) := B32.out.go hB
  have B43 : Hid (Abx v3 (w.heap.size + 1 + 1) (.bool false) (.slice (some ⟨b3, o3, none⟩) sz3.length sc3) (.slice da3 dz3.length dc3)) := B33.out.go hB
  have L44 : Hid (MidC (wo5.heap.size) (v1.heap.size) v3 (vap) ([(3 : Int)]) (vcp)) := L34.out.go (by omega) hB
  have L45 : Hid (MidC (wo5.heap.size) (v1.heap.size) v3 (gap) ([1, 2, 3]) (gcp)) := L35.out.go (by omega) hB
  have L46 : Hid (MidC (wo21.heap.size) (v2.heap.size) v3 (vaq) ([(3 : Int)]) (vcq)) := L38.out.go (by omega) hB
  have L47 : Hid (MidC (wo21.heap.size) (v2.heap.size) v3 (gaq) ([4, 5, 6]) (gcq)) := L39.out.go (by omega) hB
  have hb48 : Hid (Below w.heap.size w v3) := hb37.out.trans (hB.mono hb37.out.size)
  have L49 : Hid (MidC (v2.heap.size) (v3.heap.size) v3 (f1) ([]) (g1)) := hX0.midc
  have L50 : Hid (MidC (v2.heap.size) (v3.heap.size) v3 (f2) ([32]) (g2)) := hY0.midc
  clear hB hb37 B31 B32 B33 L34 L35 L38 L39 hX0 hY0
  clear L44 L45 L46 L47
  obtain ⟨b51, ob51, rfl, _, _, _, _⟩ := L50.out.at (i := 0) (by decide)
  have n52 := Abx.new v3 (.bool false) (.slice f1 0 g1) (.slice (some ⟨b51, ob51, none⟩) 1 g2)
  have l53 := (n52).c0
  have l54 := (n52).c1
  have l55 := (n52).c2
  obtain ⟨_, _, l56e, _, _, l56, _⟩ := ((L50.out.al (by omega) (.cells #[.bool false, .slice f1 0 g1, .slice (some ⟨b51, ob51, none⟩) 1 g2] 25))).at (i := 0) (by decide)
  cases l56e
  try simp only [Nat.add_zero] at l56
  go_wp2_with fail
  obtain ⟨wo57, hwo57⟩ : ∃ wo57, wo57 = (v3.alloc (.cells #[.bool false, .slice f1 0 g1, .slice (some ⟨b51, ob51, none⟩) 1 g2] 25)) := ⟨_, rfl⟩
  rw [← hwo57]
  have z58 : v3.heap.size + 1 ≤ wo57.heap.size := by rw [hwo57]; simp only [World.size_alloc]; omega
  have B59 : Hid (Abx wo57 (w.heap.size) (.bool false) (.slice (some ⟨b1, o1, none⟩) sz1.length sc1) (.slice da1 dz1.length dc1)) := by rw [hwo57]; exact (B41.out.al (.cells #[.bool false, .slice f1 0 g1, .slice (some ⟨b51, ob51, none⟩) 1 g2] 25))
  have B60 : Hid (Abx wo57 (w.heap.size + 1) (.bool false) (.slice (some ⟨b2, o2, none⟩) sz2.length sc2) (.slice da2 dz2.length dc2)) := by rw [hwo57]; exact (B42.out.al (.cells #[.bool false, .slice f1 0 g1, .slice (some ⟨b51, ob51, none⟩) 1 g2] 25))
  have B61 : Hid (Abx wo57 (w.heap.size + 1 + 1) (.bool false) (.slice (some ⟨b3, o3, none⟩) sz3.length sc3) (.slice da3 dz3.length dc3)) := by rw [hwo57]; exact (B43.out.al (.cells #[.bool false, .slice f1 0 g1, .slice (some ⟨b51, ob51, none⟩) 1 g2] 25))
  have B62 : Hid (Abx wo57 (v3.heap.size) (.bool false) (.slice f1 0 g1) (.slice (some ⟨b51, ob51, none⟩) 1 g2)) := by rw [hwo57]; exact n52
  have L63 : Hid (MidC (v2.heap.size) (v3.heap.size) wo57 (f1) ([]) (g1)) := by rw [hwo57]; exact (L49.out.al (by omega) (.cells #[.bool false, .slice f1 0 g1, .slice (some ⟨b51, ob51, none⟩) 1 g2] 25))
  have L64 : Hid (MidC (v2.heap.size) (v3.heap.size) wo57 (some ⟨b51, ob51, none⟩) ([32]) (g2)) := by rw [hwo57]; exact (L50.out.al (by omega) (.cells #[.bool false, .slice f1 0 g1, .slice (some ⟨b51, ob51, none⟩) 1 g2] 25))
  have hb65 : Hid (Below w.heap.size w wo57) := by rw [hwo57]; exact (hb48.out.alloc (by omega) (.cells #[.bool false, .slice f1 0 g1, .slice (some ⟨b51, ob51, none⟩) 1 g2] 25))
  have zwo57 : w.heap.size ≤ wo57.heap.size := hb65.out.size
  clear hwo57 n52 l53 l54 l55 l56 hb48 B41 B42 B43 L49 L50
  clear L63 L64 B62
  have sx11 : wo57.cell? ⟨b1, o1 + 1, none⟩ = some (.int .i64 n1) := (hb65.out.cell (p := ⟨b1, o1 + 1, none⟩) HC1.out.1).trans HC1.out.2.2
  have sx20 : wo57.cell? ⟨b2, o2, none⟩ = some (.int .i64 m2) := (hb65.out.cell (p := ⟨b2, o2, none⟩) HC2.out.1).trans HC2.out.2.1
  have sx21 : wo57.cell? ⟨b2, o2 + 1, none⟩ = some (.int .i64 n2) := (hb65.out.cell (p := ⟨b2, o2 + 1, none⟩) HC2.out.1).trans HC2.out.2.2
  have sx30 : wo57.cell? ⟨b3, o3, none⟩ = some (.int .i64 m3) := (hb65.out.cell (p := ⟨b3, o3, none⟩) HC3.out.1).trans HC3.out.2.1
  have hb0 : Below wo57.heap.size wo57 wo57.drew := (Below.refl _ wo57).drew
  refine anyC_begin (fun w' => w'.cell? ⟨w.heap.size, 0, none⟩ = some (.bool false) ∧ w'.cell? ⟨w.heap.size, 1, none⟩ = some (.slice (some ⟨b1, o1, none⟩) sz1.length sc1) ∧ w'.cell? ⟨w.heap.size, 2, none⟩ = some (.slice da1 dz1.length dc1) ∧ w'.cell? ⟨w.heap.size + 1, 0, none⟩ = some (.bool false) ∧ w'.cell? ⟨w.heap.size + 1, 1, none⟩ = some (.slice (some ⟨b2, o2, none⟩) sz2.length sc2) ∧ w'.cell? ⟨w.heap.size + 1, 2, none⟩ = some (.slice da2 dz2.length dc2) ∧ w'.cell? ⟨w.heap.size + 1 + 1, 0, none⟩ = some (.bool false) ∧ w'.cell? ⟨w.heap.size + 1 + 1, 1, none⟩ = some (.slice (some ⟨b3, o3, none⟩) sz3.length sc3) ∧ w'.cell? ⟨w.heap.size + 1 + 1, 2, none⟩ = some (.slice da3 dz3.length dc3) ∧ w'.cell? ⟨b1, o1 + 1, none⟩ = some (.int .i64 n1) ∧ w'.cell? ⟨b2, o2, none⟩ = some (.int .i64 m2) ∧ w'.cell? ⟨b2, o2 + 1, none⟩ = some (.int .i64 n2) ∧ w'.cell? ⟨b3, o3, none⟩ = some (.int .i64 m3)) 41 #[false, false, false, false, false, false, false, false, false, false, false, false, false, false, false, false, false, false, false, false, false, false, false, false, false, false, false, false, false, false, false, false, false, false, false, false, false, false, false, false, false] (by kernel_rfl) rfl rfl ?_
  refine anyC_put 0 43 ?rv82 #[true, false, false, false, false, false, false, false, false, false, false, false, false, false, false, false, false, false, false, false, false, false, false, false, false, false, false, false, false, false, false, false, false, false, false, false, false, false, false, false, false] rfl rfl rfl (by kernel_rfl) (by kernel_rfl) (by kernel_rfl) (fun _ _ _ h => h) ?ry82 (⟨(B59.out.go hb0).c0, (B59.out.go hb0).c1, (B59.out.go hb0).c2, (B60.out.go hb0).c0, (B60.out.go hb0).c1, (B60.out.go hb0).c2, (B61.out.go hb0).c0, (B61.out.go hb0).c1, (B61.out.go hb0).c2, cell_to sx11 hb0, cell_to sx20 hb0, cell_to sx21 hb0, cell_to sx30 hb0⟩) ?rm82
  case ry82 => first | exact Or.inl ⟨by rfl, by intro w'; go_simp; first | done | rfl⟩
  case rm82 =>
  simp only [Act.put, List.setIfInBounds_toArray, List.set_cons_zero, List.set_cons_succ]
  refine anyC_put 1 44 ?rv83 #[true, true, false, false, false, false, false, false, false, false, false, false, false, false, false, false, false, false, false, false, false, false, false, false, false, false, false, false, false, false, false, false, false, false, false, false, false, false, false, false, false] rfl rfl rfl (by kernel_rfl) (by kernel_rfl) (by kernel_rfl) (fun _ _ _ h => h) ?ry83 (⟨(B59.out.go hb0).c0, (B59.out.go hb0).c1, (B59.out.go hb0).c2, (B60.out.go hb0).c0, (B60.out.go hb0).c1, (B60.out.go hb0).c2, (B61.out.go hb0).c0, (B61.out.go hb0).c1, (B61.out.go hb0).c2, cell_to sx11 hb0, cell_to sx20 hb0, cell_to sx21 hb0, cell_to sx30 hb0⟩) ?rm83
  case ry83 => first | exact Or.inl ⟨by rfl, by intro w'; go_simp; first | done | rfl⟩
  case rm83 =>
  simp only [Act.put, List.setIfInBounds_toArray, List.set_cons_zero, List.set_cons_succ]
  refine anyC_one 2 #[true, true, true, false, false, false, false, false, false, false, false, false, false, false, false, false, false, false, false, false, false, false, false, false, false, false, false, false, false, false, false, false, false, false, false, false, false, false, false, false, false] (by kernel_rfl) rfl rfl (fun K hK => ?_)
  go_simp
  go_wp2_with (go_at_call 9; refine (sring_any f g _).mono ?_; rintro e ysr ⟨rfl, hysr⟩; obtain rfl := hysr.symm; rw [srB_yes GS.out])
  refine hK.out _ _ (⟨(B59.out.go hb0).c0, (B59.out.go hb0).c1, (B59.out.go hb0).c2, (B60.out.go hb0).c0, (B60.out.go hb0).c1, (B60.out.go hb0).c2, (B61.out.go hb0).c0, (B61.out.go hb0).c1, (B61.out.go hb0).c2, cell_to sx11 hb0, cell_to sx20 hb0, cell_to sx21 hb0, cell_to sx30 hb0⟩) ?_
  clear hK K
  refine anyC_put 3 46 ?rv85 #[true, true, true, true, false, false, false, false, false, false, false, false, false, false, false, false, false, false, false, false, false, false, false, false, false, false, false, false, false, false, false, false, false, false, false, false, false, false, false, false, false] rfl rfl rfl (by kernel_rfl) (by kernel_rfl) (by kernel_rfl) (fun _ _ _ h => h) ?ry85 (⟨(B59.out.go hb0).c0, (B59.out.go hb0).c1, (B59.out.go hb0).c2, (B60.out.go hb0).c0, (B60.out.go hb0).c1, (B60.out.go hb0).c2, (B61.out.go hb0).c0, (B61.out.go hb0).c1, (B61.out.go hb0).c2, cell_to sx11 hb0, cell_to sx20 hb0, cell_to sx21 hb0, cell_to sx30 hb0⟩) ?rm85
  case ry85 => first | exact Or.inl ⟨by rfl, by intro w'; go_simp; first | done | rfl⟩
  case rm85 =>
  simp only [Act.put, List.setIfInBounds_toArray, List.set_cons_zero, List.set_cons_succ]
  refine anyC_put 4 47 ?rv86 #[true, true, true, true, true, false, false, false, false, false, false, false, false, false, false, false, false, false, false, false, false, false, false, false, false, false, false, false, false, false, false, false, false, false, false, false, false, false, false, false, false] rfl rfl rfl (by kernel_rfl) (by kernel_rfl) (by kernel_rfl) (fun _ _ _ h => h) ?ry86 (⟨(B59.out.go hb0).c0, (B59.out.go hb0).c1, (B59.out.go hb0).c2, (B60.out.go hb0).c0, (B60.out.go hb0).c1, (B60.out.go hb0).c2, (B61.out.go hb0).c0, (B61.out.go hb0).c1, (B61.out.go hb0).c2, cell_to sx11 hb0, cell_to sx20 hb0, cell_to sx21 hb0, cell_to sx30 hb0⟩) ?rm86
  case ry86 => first | exact Or.inl ⟨by rfl, by intro w'; go_simp; first | done | rfl⟩
  case rm86 =>
  simp only [Act.put, List.setIfInBounds_toArray, List.set_cons_zero, List.set_cons_succ]
  refine anyC_take 5 48 ?rv87 #[true, true, true, true, true, true, false, false, false, false, false, false, false, false, false, false, false, false, false, false, false, false, false, false, false, false, false, false, false, false, false, false, false, false, false, false, false, false, false, false, false] rfl rfl rfl (by kernel_rfl) (by kernel_rfl) (by kernel_rfl) (fun _ _ _ h => h) ?ry87 (⟨(B59.out.go hb0).c0, (B59.out.go hb0).c1, (B59.out.go hb0).c2, (B60.out.go hb0).c0, (B60.out.go hb0).c1, (B60.out.go hb0).c2, (B61.out.go hb0).c0, (B61.out.go hb0).c1, (B61.out.go hb0).c2, cell_to sx11 hb0, cell_to sx20 hb0, cell_to sx21 hb0, cell_to sx30 hb0⟩) ?rm87
  case ry87 => first | exact Or.inl ⟨by rfl, by intro w' hw'; (try dsimp only at hw'); go_simp; first | done | rfl⟩ | exact Or.inr ⟨by rfl, rfl⟩ | exact Or.inr ⟨by rfl, by rfl⟩
  case rm87 =>
  simp only [Act.put, List.setIfInBounds_toArray, List.set_cons_zero, List.set_cons_succ]
  refine anyC_one 6 #[true, true, true, true, true, true, true, false, false, false, false, false, false, false, false, false, false, false, false, false, false, false, false, false, false, false, false, false, false, false, false, false, false, false, false, false, false, false, false, false, false] (by kernel_rfl) rfl rfl (fun K hK => ?_)
  go_simp
  go_wp2_with (go_at_call 10; refine (grid_yes 16 (by decide) false (some ⟨b1, o1, none⟩) sc1 sz1 da1 dc1 dz1 _ ((HI1.out.1.1.below (hb65.out.trans (hb0.mono hb65.out.size))).mono (hb65.out.trans (hb0.mono hb65.out.size)).size) G1.out).mono ?_; rintro e y1 ⟨rfl, hBy1⟩)
  have hby1 : Below wo57.heap.size wo57 y1 := hb0.trans (hBy1.mono hb0.size)
  refine hK.out _ _ (⟨(B59.out.go hby1).c0, (B59.out.go hby1).c1, (B59.out.go hby1).c2, (B60.out.go hby1).c0, (B60.out.go hby1).c1, (B60.out.go hby1).c2, (B61.out.go hby1).c0, (B61.out.go hby1).c1, (B61.out.go hby1).c2, cell_to sx11 hby1, cell_to sx20 hby1, cell_to sx21 hby1, cell_to sx30 hby1⟩) ?_
  clear hK K
  refine anyC_put 7 50 ?rv89 #[true, true, true, true, true, true, true, true, false, false, false, false, false, false, false, false, false, false, false, false, false, false, false, false, false, false, false, false, false, false, false, false, false, false, false, false, false, false, false, false, false] rfl rfl rfl (by kernel_rfl) (by kernel_rfl) (by kernel_rfl) (fun _ _ _ h => h) ?ry89 (⟨(B59.out.go hby1).c0, (B59.out.go hby1).c1, (B59.out.go hby1).c2, (B60.out.go hby1).c0, (B60.out.go hby1).c1, (B60.out.go hby1).c2, (B61.out.go hby1).c0, (B61.out.go hby1).c1, (B61.out.go hby1).c2, cell_to sx11 hby1, cell_to sx20 hby1, cell_to sx21 hby1, cell_to sx30 hby1⟩) ?rm89
  case ry89 => first | exact Or.inl ⟨by rfl, by intro w'; go_simp; first | done | rfl⟩ | exact Or.inr ⟨by rfl, rfl⟩ | exact Or.inr ⟨by rfl, by rfl⟩
  case rm89 =>
  simp only [Act.put, List.setIfInBounds_toArray, List.set_cons_zero, List.set_cons_succ]
  refine anyC_put 8 51 ?rv90 #[true, true, true, true, true, true, true, true, true, false, false, false, false, false, false, false, false, false, false, false, false, false, false, false, false, false, false, false, false, false, false, false, false, false, false, false, false, false, false, false, false] rfl rfl rfl (by kernel_rfl) (by kernel_rfl) (by kernel_rfl) (fun _ _ _ h => h) ?ry90 (⟨(B59.out.go hby1).c0, (B59.out.go hby1).c1, (B59.out.go hby1).c2, (B60.out.go hby1).c0, (B60.out.go hby1).c1, (B60.out.go hby1).c2, (B61.out.go hby1).c0, (B61.out.go hby1).c1, (B61.out.go hby1).c2, cell_to sx11 hby1, cell_to sx20 hby1, cell_to sx21 hby1, cell_to sx30 hby1⟩) ?rm90
  case ry90 => first | exact Or.inl ⟨by rfl, by intro w'; go_simp; first | done | rfl⟩
  case rm90 =>
  simp only [Act.put, List.setIfInBounds_toArray, List.set_cons_zero, List.set_cons_succ]
  refine anyC_put 9 52 ?rv91 #[true, true, true, true, true, true, true, true, true, true, false, false, false, false, false, false, false, false, false, false, false, false, false, false, false, false, false, false, false, false, false, false, false, false, false, false, false, false, false, false, false] rfl rfl rfl (by kernel_rfl) (by kernel_rfl) (by kernel_rfl) (fun _ _ _ h => h) ?ry91 (⟨(B59.out.go hby1).c0, (B59.out.go hby1).c1, (B59.out.go hby1).c2, (B60.out.go hby1).c0, (B60.out.go hby1).c1, (B60.out.go hby1).c2, (B61.out.go hby1).c0, (B61.out.go hby1).c1, (B61.out.go hby1).c2, cell_to sx11 hby1, cell_to sx20 hby1, cell_to sx21 hby1, cell_to sx30 hby1⟩) ?rm91
  case ry91 => first | exact Or.inl ⟨by rfl, by intro w'; go_simp; first | done | rfl⟩
  case rm91 =>
  simp only [Act.put, List.setIfInBounds_toArray, List.set_cons_zero, List.set_cons_succ]
  refine anyC_take 10 53 ?rv92 #[true, true, true, true, true, true, true, true, true, true, true, false, false, false, false, false, false, false, false, false, false, false, false, false, false, false, false, false, false, false, false, false, false, false, false, false, false, false, false, false, false] rfl rfl rfl (by kernel_rfl) (by kernel_rfl) (by kernel_rfl) (fun _ _ _ h => h) ?ry92 (⟨(B59.out.go hby1).c0, (B59.out.go hby1).c1, (B59.out.go hby1).c2, (B60.out.go hby1).c0, (B60.out.go hby1).c1, (B60.out.go hby1).c2, (B61.out.go hby1).c0, (B61.out.go hby1).c1, (B61.out.go hby1).c2, cell_to sx11 hby1, cell_to sx20 hby1, cell_to sx21 hby1, cell_to sx30 hby1⟩) ?rm92
  case ry92 => first | exact Or.inl ⟨by rfl, by intro w' hw'; (try dsimp only at hw'); go_simp; first | done | rfl⟩ | exact Or.inr ⟨by rfl, rfl⟩ | exact Or.inr ⟨by rfl, by rfl⟩
  case rm92 =>
  simp only [Act.put, List.setIfInBounds_toArray, List.set_cons_zero, List.set_cons_succ]
  refine anyC_one 11 #[true, true, true, true, true, true, true, true, true, true, true, true, false, false, false, false, false, false, false, false, false, false, false, false, false, false, false, false, false, false, false, false, false, false, false, false, false, false, false, false, false] (by kernel_rfl) rfl rfl (fun K hK => ?_)
  go_simp
  go_wp2_with (go_at_call 10; refine (grid_yes 16 (by decide) false (some ⟨b2, o2, none⟩) sc2 sz2 da2 dc2 dz2 _ ((HI2.out.1.1.below (hb65.out.trans (hby1.mono hb65.out.size))).mono (hb65.out.trans (hby1.mono hb65.out.size)).size) G2.out).mono ?_; rintro e y2 ⟨rfl, hBy2⟩)
  have hby2 : Below wo57.heap.size wo57 y2 := hby1.trans (hBy2.mono hby1.size)
  refine hK.out _ _ (⟨(B59.out.go hby2).c0, (B59.out.go hby2).c1, (B59.out.go hby2).c2, (B60.out.go hby2).c0, (B60.out.go hby2).c1, (B60.out.go hby2).c2, (B61.out.go hby2).c0, (B61.out.go hby2).c1, (B61.out.go hby2).c2, cell_to sx11 hby2, cell_to sx20 hby2, cell_to sx21 hby2, cell_to sx30 hby2⟩) ?_
  clear hK K
  refine anyC_put 12 55 ?rv94 #[true, true, true, true, true, true, true, true, true, true, true, true, true, false, false, false, false, false, false, false, false, false, false, false, false, false, false, false, false, false, false, false, false, false, false, false, false, false, false, false, false] rfl rfl rfl (by kernel_rfl) (by kernel_rfl) (by kernel_rfl) (fun _ _ _ h => h) ?ry94 (⟨(B59.out.go hby2).c0, (B59.out.go hby2).c1, (B59.out.go hby2).c2, (B60.out.go hby2).c0, (B60.out.go hby2).c1, (B60.out.go hby2).c2, (B61.out.go hby2).c0, (B61.out.go hby2).c1, (B61.out.go hby2).c2, cell_to sx11 hby2, cell_to sx20 hby2, cell_to sx21 hby2, cell_to sx30 hby2⟩) ?rm94
  case ry94 => first | exact Or.inl ⟨by rfl, by intro w'; go_simp; first | done | rfl⟩ | exact Or.inr ⟨by rfl, rfl⟩ | exact Or.inr ⟨by rfl, by rfl⟩
  case rm94 =>
  simp only [Act.put, List.setIfInBounds_toArray, List.set_cons_zero, List.set_cons_succ]
  refine anyC_put 13 56 ?rv95 #[true, true, true, true, true, true, true, true, true, true, true, true, true, true, false, false, false, false, false, false, false, false, false, false, false, false, false, false, false, false, false, false, false, false, false, false, false, false, false, false, false] rfl rfl rfl (by kernel_rfl) (by kernel_rfl) (by kernel_rfl) (fun _ _ _ h => h) ?ry95 (⟨(B59.out.go hby2).c0, (B59.out.go hby2).c1, (B59.out.go hby2).c2, (B60.out.go hby2).c0, (B60.out.go hby2).c1, (B60.out.go hby2).c2, (B61.out.go hby2).c0, (B61.out.go hby2).c1, (B61.out.go hby2).c2, cell_to sx11 hby2, cell_to sx20 hby2, cell_to sx21 hby2, cell_to sx30 hby2⟩) ?rm95
  case ry95 => first | exact Or.inl ⟨by rfl, by intro w'; go_simp; first | done | rfl⟩
  case rm95 =>
  simp only [Act.put, List.setIfInBounds_toArray, List.set_cons_zero, List.set_cons_succ]
  refine anyC_put 14 57 ?rv96 #[true, true, true, true, true, true, true, true, true, true, true, true, true, true, true, false, false, false, false, false, false, false, false, false, false, false, false, false, false, false, false, false, false, false, false, false, false, false, false, false, false] rfl rfl rfl (by kernel_rfl) (by kernel_rfl) (by kernel_rfl) (fun _ _ _ h => h) ?ry96 (⟨(B59.out.go hby2).c0, (B59.out.go hby2).c1, (B59.out.go hby2).c2, (B60.out.go hby2).c0, (B60.out.go hby2).c1, (B60.out.go hby2).c2, (B61.out.go hby2).c0, (B61.out.go hby2).c1, (B61.out.go hby2).c2, cell_to sx11 hby2, cell_to sx20 hby2, cell_to sx21 hby2, cell_to sx30 hby2⟩) ?rm96
  case ry96 => first | exact Or.inl ⟨by rfl, by intro w'; go_simp; first | done | rfl⟩
  case rm96 =>
  simp only [Act.put, List.setIfInBounds_toArray, List.set_cons_zero, List.set_cons_succ]
  refine anyC_take 15 58 ?rv97 #[true, true, true, true, true, true, true, true, true, true, true, true, true, true, true, true, false, false, false, false, false, false, false, false, false, false, false, false, false, false, false, false, false, false, false, false, false, false, false, false, false] rfl rfl rfl (by kernel_rfl) (by kernel_rfl) (by kernel_rfl) (fun _ _ _ h => h) ?ry97 (⟨(B59.out.go hby2).c0, (B59.out.go hby2).c1, (B59.out.go hby2).c2, (B60.out.go hby2).c0, (B60.out.go hby2).c1, (B60.out.go hby2).c2, (B61.out.go hby2).c0, (B61.out.go hby2).c1, (B61.out.go hby2).c2, cell_to sx11 hby2, cell_to sx20 hby2, cell_to sx21 hby2, cell_to sx30 hby2⟩) ?rm97
  case ry97 => first | exact Or.inl ⟨by rfl, by intro w' hw'; (try dsimp only at hw'); go_simp; first | done | rfl⟩ | exact Or.inr ⟨by rfl, rfl⟩ | exact Or.inr ⟨by rfl, by rfl⟩
  case rm97 =>
  simp only [Act.put, List.setIfInBounds_toArray, List.set_cons_zero, List.set_cons_succ]
  refine anyC_one 16 #[true, true, true, true, true, true, true, true, true, true, true, true, true, true, true, true, true, false, false, false, false, false, false, false, false, false, false, false, false, false, false, false, false, false, false, false, false, false, false, false, false] (by kernel_rfl) rfl rfl (fun K hK => ?_)
  go_simp
  go_wp2_with (go_at_call 10; refine (grid_yes 16 (by decide) false (some ⟨b3, o3, none⟩) sc3 sz3 da3 dc3 dz3 _ ((HI3.out.1.1.below (hb65.out.trans (hby2.mono hb65.out.size))).mono (hb65.out.trans (hby2.mono hb65.out.size)).size) G3.out).mono ?_; rintro e y3 ⟨rfl, hBy3⟩)
  have hby3 : Below wo57.heap.size wo57 y3 := hby2.trans (hBy3.mono hby2.size)
  refine hK.out _ _ (⟨(B59.out.go hby3).c0, (B59.out.go hby3).c1, (B59.out.go hby3).c2, (B60.out.go hby3).c0, (B60.out.go hby3).c1, (B60.out.go hby3).c2, (B61.out.go hby3).c0, (B61.out.go hby3).c1, (B61.out.go hby3).c2, cell_to sx11 hby3, cell_to sx20 hby3, cell_to sx21 hby3, cell_to sx30 hby3⟩) ?_
  clear hK K
  refine anyC_put 17 60 ?rv99 #[true, true, true, true, true, true, true, true, true, true, true, true, true, true, true, true, true, true, false, false, false, false, false, false, false, false, false, false, false, false, false, false, false, false, false, false, false, false, false, false, false] rfl rfl rfl (by kernel_rfl) (by kernel_rfl) (by kernel_rfl) (fun _ _ _ h => h) ?ry99 (⟨(B59.out.go hby3).c0, (B59.out.go hby3).c1, (B59.out.go hby3).c2, (B60.out.go hby3).c0, (B60.out.go hby3).c1, (B60.out.go hby3).c2, (B61.out.go hby3).c0, (B61.out.go hby3).c1, (B61.out.go hby3).c2, cell_to sx11 hby3, cell_to sx20 hby3, cell_to sx21 hby3, cell_to sx30 hby3⟩) ?rm99
  case ry99 => first | exact Or.inl ⟨by rfl, by intro w'; go_simp; first | done | rfl⟩ | exact Or.inr ⟨by rfl, rfl⟩ | exact Or.inr ⟨by rfl, by rfl⟩
  case rm99 =>
  simp only [Act.put, List.setIfInBounds_toArray, List.set_cons_zero, List.set_cons_succ]
  refine anyC_put 18 61 ?rv100 #[true, true, true, true, true, true, true, true, true, true, true, true, true, true, true, true, true, true, true, false, false, false, false, false, false, false, false, false, false, false, false, false, false, false, false, false, false, false, false, false, false] rfl rfl rfl (by kernel_rfl) (by kernel_rfl) (by kernel_rfl) (fun _ _ _ h => h) ?ry100 (⟨(B59.out.go hby3).c0, (B59.out.go hby3).c1, (B59.out.go hby3).c2, (B60.out.go hby3).c0, (B60.out.go hby3).c1, (B60.out.go hby3).c2, (B61.out.go hby3).c0, (B61.out.go hby3).c1, (B61.out.go hby3).c2, cell_to sx11 hby3, cell_to sx20 hby3, cell_to sx21 hby3, cell_to sx30 hby3⟩) ?rm100
  case ry100 => first | exact Or.inl ⟨by rfl, by intro w'; go_simp; first | done | rfl⟩
  case rm100 =>
  simp only [Act.put, List.setIfInBounds_toArray, List.set_cons_zero, List.set_cons_succ]
  refine anyC_put 19 62 ?rv101 #[true, true, true, true, true, true, true, true, true, true, true, true, true, true, true, true, true, true, true, true, false, false, false, false, false, false, false, false, false, false, false, false, false, false, false, false, false, false, false, false, false] rfl rfl rfl (by kernel_rfl) (by kernel_rfl) (by kernel_rfl) (fun _ _ _ h => h) ?ry101 (⟨(B59.out.go hby3).c0, (B59.out.go hby3).c1, (B59.out.go hby3).c2, (B60.out.go hby3).c0, (B60.out.go hby3).c1, (B60.out.go hby3).c2, (B61.out.go hby3).c0, (B61.out.go hby3).c1, (B61.out.go hby3).c2, cell_to sx11 hby3, cell_to sx20 hby3, cell_to sx21 hby3, cell_to sx30 hby3⟩) ?rm101
  case ry101 => first | exact Or.inl ⟨by rfl, by intro w'; go_simp; first | done | rfl⟩
  case rm101 =>
  simp only [Act.put, List.setIfInBounds_toArray, List.set_cons_zero, List.set_cons_succ]
  refine anyC_put 20 63 ?rv102 #[true, true, true, true, true, true, true, true, true, true, true, true, true, true, true, true, true, true, true, true, true, false, false, false, false, false, false, false, false, false, false, false, false, false, false, false, false, false, false, false, false] rfl rfl rfl (by kernel_rfl) (by kernel_rfl) (by kernel_rfl) (fun _ _ _ h => h) ?ry102 (⟨(B59.out.go hby3).c0, (B59.out.go hby3).c1, (B59.out.go hby3).c2, (B60.out.go hby3).c0, (B60.out.go hby3).c1, (B60.out.go hby3).c2, (B61.out.go hby3).c0, (B61.out.go hby3).c1, (B61.out.go hby3).c2, cell_to sx11 hby3, cell_to sx20 hby3, cell_to sx21 hby3, cell_to sx30 hby3⟩) ?rm102
  case ry102 => first | exact Or.inl ⟨by rfl, by intro w'; go_simp; first | done | rfl⟩ | exact Or.inr ⟨by rfl, rfl⟩ | exact Or.inr ⟨by rfl, by rfl⟩
  case rm102 =>
  simp only [Act.put, List.setIfInBounds_toArray, List.set_cons_zero, List.set_cons_succ]
  refine anyC_take 21 64 ?rv103 #[true, true, true, true, true, true, true, true, true, true, true, true, true, true, true, true, true, true, true, true, true, true, false, false, false, false, false, false, false, false, false, false, false, false, false, false, false, false, false, false, false] rfl rfl rfl (by kernel_rfl) (by kernel_rfl) (by kernel_rfl) (fun _ _ _ h => h) ?ry103 (⟨(B59.out.go hby3).c0, (B59.out.go hby3).c1, (B59.out.go hby3).c2, (B60.out.go hby3).c0, (B60.out.go hby3).c1, (B60.out.go hby3).c2, (B61.out.go hby3).c0, (B61.out.go hby3).c1, (B61.out.go hby3).c2, cell_to sx11 hby3, cell_to sx20 hby3, cell_to sx21 hby3, cell_to sx30 hby3⟩) ?rm103
  case ry103 => first | exact Or.inl ⟨by rfl, by intro w' hw'; (try dsimp only at hw'); go_simp; first | done | rfl⟩ | exact Or.inr ⟨by rfl, rfl⟩ | exact Or.inr ⟨by rfl, by rfl⟩
  case rm103 =>
  simp only [Act.put, List.setIfInBounds_toArray, List.set_cons_zero, List.set_cons_succ]
  refine anyC_put 22 65 ?rv104 #[true, true, true, true, true, true, true, true, true, true, true, true, true, true, true, true, true, true, true, true, true, true, true, false, false, false, false, false, false, false, false, false, false, false, false, false, false, false, false, false, false] rfl rfl rfl (by kernel_rfl) (by kernel_rfl) (by kernel_rfl) (fun _ _ _ h => h) ?ry104 (⟨(B59.out.go hby3).c0, (B59.out.go hby3).c1, (B59.out.go hby3).c2, (B60.out.go hby3).c0, (B60.out.go hby3).c1, (B60.out.go hby3).c2, (B61.out.go hby3).c0, (B61.out.go hby3).c1, (B61.out.go hby3).c2, cell_to sx11 hby3, cell_to sx20 hby3, cell_to sx21 hby3, cell_to sx30 hby3⟩) ?rm104
  case ry104 => first | exact Or.inl ⟨by rfl, by intro w'; go_simp; first | done | rfl⟩ | exact Or.inr ⟨by rfl, rfl⟩ | exact Or.inr ⟨by rfl, by rfl⟩
  case rm104 =>
  simp only [Act.put, List.setIfInBounds_toArray, List.set_cons_zero, List.set_cons_succ]
  refine anyC_take 23 66 ?rv105 #[true, true, true, true, true, true, true, true, true, true, true, true, true, true, true, true, true, true, true, true, true, true, true, true, false, false, false, false, false, false, false, false, false, false, false, false, false, false, false, false, false] rfl rfl rfl (by kernel_rfl) (by kernel_rfl) (by kernel_rfl) (fun _ _ _ h => h) ?ry105 (⟨(B59.out.go hby3).c0, (B59.out.go hby3).c1, (B59.out.go hby3).c2, (B60.out.go hby3).c0, (B60.out.go hby3).c1, (B60.out.go hby3).c2, (B61.out.go hby3).c0, (B61.out.go hby3).c1, (B61.out.go hby3).c2, cell_to sx11 hby3, cell_to sx20 hby3, cell_to sx21 hby3, cell_to sx30 hby3⟩) ?rm105
  case ry105 => first | exact Or.inl ⟨by rfl, by intro w' hw'; (try dsimp only at hw'); go_simp; first | done | rfl⟩ | exact Or.inr ⟨by rfl, rfl⟩ | exact Or.inr ⟨by rfl, by rfl⟩
  case rm105 =>
  simp only [Act.put, List.setIfInBounds_toArray, List.set_cons_zero, List.set_cons_succ]
  refine anyC_put 24 67 ?rv106 #[true, true, true, true, true, true, true, true, true, true, true, true, true, true, true, true, true, true, true, true, true, true, true, true, true, false, false, false, false, false, false, false, false, false, false, false, false, false, false, false, false] rfl rfl rfl (by kernel_rfl) (by kernel_rfl) (by kernel_rfl) (fun _ _ _ h => h) ?ry106 (⟨(B59.out.go hby3).c0, (B59.out.go hby3).c1, (B59.out.go hby3).c2, (B60.out.go hby3).c0, (B60.out.go hby3).c1, (B60.out.go hby3).c2, (B61.out.go hby3).c0, (B61.out.go hby3).c1, (B61.out.go hby3).c2, cell_to sx11 hby3, cell_to sx20 hby3, cell_to sx21 hby3, cell_to sx30 hby3⟩) ?rm106
  case ry106 => first | exact Or.inl ⟨by rfl, by intro w'; go_simp; first | done | rfl⟩ | exact Or.inr ⟨by rfl, rfl⟩ | exact Or.inr ⟨by rfl, by rfl⟩
  case rm106 =>
  simp only [Act.put, List.setIfInBounds_toArray, List.set_cons_zero, List.set_cons_succ]
  refine anyC_take 25 68 ?rv107 #[true, true, true, true, true, true, true, true, true, true, true, true, true, true, true, true, true, true, true, true, true, true, true, true, true, true, false, false, false, false, false, false, false, false, false, false, false, false, false, false, false] rfl rfl rfl (by kernel_rfl) (by kernel_rfl) (by kernel_rfl) (fun _ _ _ h => h) ?ry107 (⟨(B59.out.go hby3).c0, (B59.out.go hby3).c1, (B59.out.go hby3).c2, (B60.out.go hby3).c0, (B60.out.go hby3).c1, (B60.out.go hby3).c2, (B61.out.go hby3).c0, (B61.out.go hby3).c1, (B61.out.go hby3).c2, cell_to sx11 hby3, cell_to sx20 hby3, cell_to sx21 hby3, cell_to sx30 hby3⟩) ?rm107
  case ry107 => first | exact Or.inl ⟨by rfl, by intro w' hw'; (try dsimp only at hw'); go_simp; first | done | rfl⟩ | exact Or.inr ⟨by rfl, rfl⟩ | exact Or.inr ⟨by rfl, by rfl⟩
  case rm107 =>
  simp only [Act.put, List.setIfInBounds_toArray, List.set_cons_zero, List.set_cons_succ]
  refine anyC_put 26 69 ?rv108 #[true, true, true, true, true, true, true, true, true, true, true, true, true, true, true, true, true, true, true, true, true, true, true, true, true, true, true, false, false, false, false, false, false, false, false, false, false, false, false, false, false] rfl rfl rfl (by kernel_rfl) (by kernel_rfl) (by kernel_rfl) (fun _ _ _ h => h) ?ry108 (⟨(B59.out.go hby3).c0, (B59.out.go hby3).c1, (B59.out.go hby3).c2, (B60.out.go hby3).c0, (B60.out.go hby3).c1, (B60.out.go hby3).c2, (B61.out.go hby3).c0, (B61.out.go hby3).c1, (B61.out.go hby3).c2, cell_to sx11 hby3, cell_to sx20 hby3, cell_to sx21 hby3, cell_to sx30 hby3⟩) ?rm108
  case ry108 => first | exact Or.inl ⟨by rfl, by intro w'; go_simp; first | done | rfl⟩ | exact Or.inr ⟨by rfl, rfl⟩ | exact Or.inr ⟨by rfl, by rfl⟩
  case rm108 =>
  simp only [Act.put, List.setIfInBounds_toArray, List.set_cons_zero, List.set_cons_succ]
  refine anyC_take 27 70 ?rv109 #[true, true, true, true, true, true, true, true, true, true, true, true, true, true, true, true, true, true, true, true, true, true, true, true, true, true, true, true, false, false, false, false, false, false, false, false, false, false, false, false, false] rfl rfl rfl (by kernel_rfl) (by kernel_rfl) (by kernel_rfl) (fun _ _ _ h => h) ?ry109 (⟨(B59.out.go hby3).c0, (B59.out.go hby3).c1, (B59.out.go hby3).c2, (B60.out.go hby3).c0, (B60.out.go hby3).c1, (B60.out.go hby3).c2, (B61.out.go hby3).c0, (B61.out.go hby3).c1, (B61.out.go hby3).c2, cell_to sx11 hby3, cell_to sx20 hby3, cell_to sx21 hby3, cell_to sx30 hby3⟩) ?rm109
  case ry109 => first | exact Or.inl ⟨by rfl, by intro w' hw'; (try dsimp only at hw'); go_simp; first | done | rfl⟩ | exact Or.inr ⟨by rfl, rfl⟩ | exact Or.inr ⟨by rfl, by rfl⟩
  case rm109 =>
  simp only [Act.put, List.setIfInBounds_toArray, List.set_cons_zero, List.set_cons_succ]
  refine anyC_put 28 71 ?rv110 #[true, true, true, true, true, true, true, true, true, true, true, true, true, true, true, true, true, true, true, true, true, true, true, true, true, true, true, true, true, false, false, false, false, false, false, false, false, false, false, false, false] rfl rfl rfl (by kernel_rfl) (by kernel_rfl) (by kernel_rfl) (fun _ _ _ h => h) ?ry110 (⟨(B59.out.go hby3).c0, (B59.out.go hby3).c1, (B59.out.go hby3).c2, (B60.out.go hby3).c0, (B60.out.go hby3).c1, (B60.out.go hby3).c2, (B61.out.go hby3).c0, (B61.out.go hby3).c1, (B61.out.go hby3).c2, cell_to sx11 hby3, cell_to sx20 hby3, cell_to sx21 hby3, cell_to sx30 hby3⟩) ?rm110
  case ry110 => first | exact Or.inl ⟨by rfl, by intro w'; go_simp; first | done | rfl⟩ | exact Or.inr ⟨by rfl, rfl⟩ | exact Or.inr ⟨by rfl, by rfl⟩
  case rm110 =>
  simp only [Act.put, List.setIfInBounds_toArray, List.set_cons_zero, List.set_cons_succ]
  refine anyC_put 29 72 ?rv111 #[true, true, true, true, true, true, true, true, true, true, true, true, true, true, true, true, true, true, true, true, true, true, true, true, true, true, true, true, true, true, false, false, false, false, false, false, false, false, false, false, false] rfl rfl rfl (by kernel_rfl) (by kernel_rfl) (by kernel_rfl) (fun _ _ _ h => h) ?ry111 (⟨(B59.out.go hby3).c0, (B59.out.go hby3).c1, (B59.out.go hby3).c2, (B60.out.go hby3).c0, (B60.out.go hby3).c1, (B60.out.go hby3).c2, (B61.out.go hby3).c0, (B61.out.go hby3).c1, (B61.out.go hby3).c2, cell_to sx11 hby3, cell_to sx20 hby3, cell_to sx21 hby3, cell_to sx30 hby3⟩) ?rm111
  case ry111 => first | exact Or.inl ⟨by rfl, by intro w'; go_simp; first | done | rfl⟩
  case rm111 =>
  simp only [Act.put, List.setIfInBounds_toArray, List.set_cons_zero, List.set_cons_succ]
  refine anyC_put 30 73 ?rv112 #[true, true, true, true, true, true, true, true, true, true, true, true, true, true, true, true, true, true, true, true, true, true, true, true, true, true, true, true, true, true, true, false, false, false, false, false, false, false, false, false, false] rfl rfl rfl (by kernel_rfl) (by kernel_rfl) (by kernel_rfl) (fun _ _ _ h => h) ?ry112 (⟨(B59.out.go hby3).c0, (B59.out.go hby3).c1, (B59.out.go hby3).c2, (B60.out.go hby3).c0, (B60.out.go hby3).c1, (B60.out.go hby3).c2, (B61.out.go hby3).c0, (B61.out.go hby3).c1, (B61.out.go hby3).c2, cell_to sx11 hby3, cell_to sx20 hby3, cell_to sx21 hby3, cell_to sx30 hby3⟩) ?rm112
  case ry112 => first | exact Or.inl ⟨by rfl, by intro w'; go_simp; first | done | rfl⟩
  case rm112 =>
  simp only [Act.put, List.setIfInBounds_toArray, List.set_cons_zero, List.set_cons_succ]
  refine anyC_put 31 74 ?rv113 #[true, true, true, true, true, true, true, true, true, true, true, true, true, true, true, true, true, true, true, true, true, true, true, true, true, true, true, true, true, true, true, true, false, false, false, false, false, false, false, false, false] rfl rfl rfl (by kernel_rfl) (by kernel_rfl) (by kernel_rfl) (fun _ _ _ h => h) ?ry113 (⟨(B59.out.go hby3).c0, (B59.out.go hby3).c1, (B59.out.go hby3).c2, (B60.out.go hby3).c0, (B60.out.go hby3).c1, (B60.out.go hby3).c2, (B61.out.go hby3).c0, (B61.out.go hby3).c1, (B61.out.go hby3).c2, cell_to sx11 hby3, cell_to sx20 hby3, cell_to sx21 hby3, cell_to sx30 hby3⟩) ?rm113
  case ry113 => first | exact Or.inl ⟨by rfl, by intro w'; go_simp; first | done | rfl⟩ | exact Or.inr ⟨by rfl, rfl⟩ | exact Or.inr ⟨by rfl, by rfl⟩
  case rm113 =>
  simp only [Act.put, List.setIfInBounds_toArray, List.set_cons_zero, List.set_cons_succ]
  refine anyC_take 32 75 ?rv114 #[true, true, true, true, true, true, true, true, true, true, true, true, true, true, true, true, true, true, true, true, true, true, true, true, true, true, true, true, true, true, true, true, true, false, false, false, false, false, false, false, false] rfl rfl rfl (by kernel_rfl) (by kernel_rfl) (by kernel_rfl) (fun _ _ _ h => h) ?ry114 (⟨(B59.out.go hby3).c0, (B59.out.go hby3).c1, (B59.out.go hby3).c2, (B60.out.go hby3).c0, (B60.out.go hby3).c1, (B60.out.go hby3).c2, (B61.out.go hby3).c0, (B61.out.go hby3).c1, (B61.out.go hby3).c2, cell_to sx11 hby3, cell_to sx20 hby3, cell_to sx21 hby3, cell_to sx30 hby3⟩) ?rm114
  case ry114 => first | exact Or.inl ⟨by rfl, by intro w' hw'; (try dsimp only at hw'); go_simp; first | done | rfl⟩ | exact Or.inr ⟨by rfl, rfl⟩ | exact Or.inr ⟨by rfl, by rfl⟩
  case rm114 =>
  simp only [Act.put, List.setIfInBounds_toArray, List.set_cons_zero, List.set_cons_succ]
  refine anyC_put 33 76 ?rv115 #[true, true, true, true, true, true, true, true, true, true, true, true, true, true, true, true, true, true, true, true, true, true, true, true, true, true, true, true, true, true, true, true, true, true, false, false, false, false, false, false, false] rfl rfl rfl (by kernel_rfl) (by kernel_rfl) (by kernel_rfl) (fun _ _ _ h => h) ?ry115 (⟨(B59.out.go hby3).c0, (B59.out.go hby3).c1, (B59.out.go hby3).c2, (B60.out.go hby3).c0, (B60.out.go hby3).c1, (B60.out.go hby3).c2, (B61.out.go hby3).c0, (B61.out.go hby3).c1, (B61.out.go hby3).c2, cell_to sx11 hby3, cell_to sx20 hby3, cell_to sx21 hby3, cell_to sx30 hby3⟩) ?rm115
  case ry115 => first | exact Or.inl ⟨by rfl, by intro w'; go_simp; first | done | rfl⟩ | exact Or.inr ⟨by rfl, rfl⟩ | exact Or.inr ⟨by rfl, by rfl⟩
  case rm115 =>
  simp only [Act.put, List.setIfInBounds_toArray, List.set_cons_zero, List.set_cons_succ]
  refine anyC_take 34 77 ?rv116 #[true, true, true, true, true, true, true, true, true, true, true, true, true, true, true, true, true, true, true, true, true, true, true, true, true, true, true, true, true, true, true, true, true, true, true, false, false, false, false, false, false] rfl rfl rfl (by kernel_rfl) (by kernel_rfl) (by kernel_rfl) (fun _ _ _ h => h) ?ry116 (⟨(B59.out.go hby3).c0, (B59.out.go hby3).c1, (B59.out.go hby3).c2, (B60.out.go hby3).c0, (B60.out.go hby3).c1, (B60.out.go hby3).c2, (B61.out.go hby3).c0, (B61.out.go hby3).c1, (B61.out.go hby3).c2, cell_to sx11 hby3, cell_to sx20 hby3, cell_to sx21 hby3, cell_to sx30 hby3⟩) ?rm116
  case ry116 => first | exact Or.inl ⟨by rfl, by intro w' hw'; (try dsimp only at hw'); go_simp; first | done | rfl⟩ | exact Or.inr ⟨by rfl, rfl⟩ | exact Or.inr ⟨by rfl, by rfl⟩
  case rm116 =>
  simp only [Act.put, List.setIfInBounds_toArray, List.set_cons_zero, List.set_cons_succ]
  refine anyC_put 35 78 ?rv117 #[true, true, true, true, true, true, true, true, true, true, true, true, true, true, true, true, true, true, true, true, true, true, true, true, true, true, true, true, true, true, true, true, true, true, true, true, false, false, false, false, false] rfl rfl rfl (by kernel_rfl) (by kernel_rfl) (by kernel_rfl) (fun _ _ _ h => h) ?ry117 (⟨(B59.out.go hby3).c0, (B59.out.go hby3).c1, (B59.out.go hby3).c2, (B60.out.go hby3).c0, (B60.out.go hby3).c1, (B60.out.go hby3).c2, (B61.out.go hby3).c0, (B61.out.go hby3).c1, (B61.out.go hby3).c2, cell_to sx11 hby3, cell_to sx20 hby3, cell_to sx21 hby3, cell_to sx30 hby3⟩) ?rm117
  case ry117 => first | exact Or.inl ⟨by rfl, by intro w'; go_simp; first | done | rfl⟩ | exact Or.inr ⟨by rfl, rfl⟩ | exact Or.inr ⟨by rfl, by rfl⟩
  case rm117 =>
  simp only [Act.put, List.setIfInBounds_toArray, List.set_cons_zero, List.set_cons_succ]
  refine anyC_take 36 79 ?rv118 #[true, true, true, true, true, true, true, true, true, true, true, true, true, true, true, true, true, true, true, true, true, true, true, true, true, true, true, true, true, true, true, true, true, true, true, true, true, false, false, false, false] rfl rfl rfl (by kernel_rfl) (by kernel_rfl) (by kernel_rfl) (fun _ _ _ h => h) ?ry118 (⟨(B59.out.go hby3).c0, (B59.out.go hby3).c1, (B59.out.go hby3).c2, (B60.out.go hby3).c0, (B60.out.go hby3).c1, (B60.out.go hby3).c2, (B61.out.go hby3).c0, (B61.out.go hby3).c1, (B61.out.go hby3).c2, cell_to sx11 hby3, cell_to sx20 hby3, cell_to sx21 hby3, cell_to sx30 hby3⟩) ?rm118
  case ry118 => first | exact Or.inl ⟨by rfl, by intro w' hw'; (try dsimp only at hw'); go_simp; first | done | rfl⟩ | exact Or.inr ⟨by rfl, rfl⟩ | exact Or.inr ⟨by rfl, by rfl⟩
  case rm118 =>
  simp only [Act.put, List.setIfInBounds_toArray, List.set_cons_zero, List.set_cons_succ]
  refine anyC_put 37 80 ?rv119 #[true, true, true, true, true, true, true, true, true, true, true, true, true, true, true, true, true, true, true, true, true, true, true, true, true, true, true, true, true, true, true, true, true, true, true, true, true, true, false, false, false] rfl rfl rfl (by kernel_rfl) (by kernel_rfl) (by kernel_rfl) (fun _ _ _ h => h) ?ry119 (⟨(B59.out.go hby3).c0, (B59.out.go hby3).c1, (B59.out.go hby3).c2, (B60.out.go hby3).c0, (B60.out.go hby3).c1, (B60.out.go hby3).c2, (B61.out.go hby3).c0, (B61.out.go hby3).c1, (B61.out.go hby3).c2, cell_to sx11 hby3, cell_to sx20 hby3, cell_to sx21 hby3, cell_to sx30 hby3⟩) ?rm119
  case ry119 => first | exact Or.inl ⟨by rfl, by intro w'; go_simp; first | done | rfl⟩ | exact Or.inr ⟨by rfl, rfl⟩ | exact Or.inr ⟨by rfl, by rfl⟩
  case rm119 =>
  simp only [Act.put, List.setIfInBounds_toArray, List.set_cons_zero, List.set_cons_succ]
  refine anyC_take 38 81 ?rv120 #[true, true, true, true, true, true, true, true, true, true, true, true, true, true, true, true, true, true, true, true, true, true, true, true, true, true, true, true, true, true, true, true, true, true, true, true, true, true, true, false, false] rfl rfl rfl (by kernel_rfl) (by kernel_rfl) (by kernel_rfl) (fun _ _ _ h => h) ?ry120 (⟨(B59.out.go hby3).c0, (B59.out.go hby3).c1, (B59.out.go hby3).c2, (B60.out.go hby3).c0, (B60.out.go hby3).c1, (B60.out.go hby3).c2, (B61.out.go hby3).c0, (B61.out.go hby3).c1, (B61.out.go hby3).c2, cell_to sx11 hby3, cell_to sx20 hby3, cell_to sx21 hby3, cell_to sx30 hby3⟩) ?rm120
  case ry120 => first | exact Or.inl ⟨by rfl, by intro w' hw'; (try dsimp only at hw'); go_simp; first | done | rfl⟩ | exact Or.inr ⟨by rfl, rfl⟩ | exact Or.inr ⟨by rfl, by rfl⟩
  case rm120 =>
  simp only [Act.put, List.setIfInBounds_toArray, List.set_cons_zero, List.set_cons_succ]
  refine anyC_put 39 82 ?rv121 #[true, true, true, true, true, true, true, true, true, true, true, true, true, true, true, true, true, true, true, true, true, true, true, true, true, true, true, true, true, true, true, true, true, true, true, true, true, true, true, true, false] rfl rfl rfl (by kernel_rfl) (by kernel_rfl) (by kernel_rfl) (fun _ _ _ h => h) ?ry121 (⟨(B59.out.go hby3).c0, (B59.out.go hby3).c1, (B59.out.go hby3).c2, (B60.out.go hby3).c0, (B60.out.go hby3).c1, (B60.out.go hby3).c2, (B61.out.go hby3).c0, (B61.out.go hby3).c1, (B61.out.go hby3).c2, cell_to sx11 hby3, cell_to sx20 hby3, cell_to sx21 hby3, cell_to sx30 hby3⟩) ?rm121
  case ry121 => first | exact Or.inl ⟨by rfl, by intro w'; go_simp; first | done | rfl⟩ | exact Or.inr ⟨by rfl, rfl⟩ | exact Or.inr ⟨by rfl, by rfl⟩
  case rm121 =>
  simp only [Act.put, List.setIfInBounds_toArray, List.set_cons_zero, List.set_cons_succ]
  refine anyC_put 40 83 ?rv122 #[true, true, true, true, true, true, true, true, true, true, true, true, true, true, true, true, true, true, true, true, true, true, true, true, true, true, true, true, true, true, true, true, true, true, true, true, true, true, true, true, true] rfl rfl rfl (by kernel_rfl) (by kernel_rfl) (by kernel_rfl) (fun _ _ _ h => h) ?ry122 (⟨(B59.out.go hby3).c0, (B59.out.go hby3).c1, (B59.out.go hby3).c2, (B60.out.go hby3).c0, (B60.out.go hby3).c1, (B60.out.go hby3).c2, (B61.out.go hby3).c0, (B61.out.go hby3).c1, (B61.out.go hby3).c2, cell_to sx11 hby3, cell_to sx20 hby3, cell_to sx21 hby3, cell_to sx30 hby3⟩) ?rm122
  case ry122 => first | exact Or.inl ⟨by rfl, by intro w'; go_simp; first | done | rfl⟩
  case rm122 =>
  simp only [Act.put, List.setIfInBounds_toArray, List.set_cons_zero, List.set_cons_succ]
  refine anyC_done (by kernel_rfl) ?_
  have hB := hby3
  have z66 : wo57.heap.size ≤ y3.heap.size := hB.size
  have B67 : Hid (Abx y3 (w.heap.size) (.bool false) (.slice (some ⟨b1, o1, none⟩) sz1.length sc1) (.slice da1 dz1.length dc1)) := B59.out.go hB
  have B68 : Hid (Abx y3 (w.heap.size + 1) (.bool false) (.slice (some ⟨b2, o2, none⟩) sz2.length sc2) (.slice da2 dz2.length dc2)) := B60.out.go hB
  have B69 : Hid (Abx y3 (w.heap.size + 1 + 1) (.bool false) (.slice (some ⟨b3, o3, none⟩) sz3.length sc3) (.slice da3 dz3.length dc3)) := B61.out.go hB
  have hb70 : Hid (Below w.heap.size w y3) := hb65.out.trans (hB.mono hb65.out.size)
  clear hB hb65 B59 B60 B61
  have l71 := (B67.out).c0
  have l72 := (B67.out).c1
  have l73 := (B67.out).c2
  have l74 := (B68.out).c0
  have l75 := (B68.out).c1
  have l76 := (B68.out).c2
  go_wp2_with fail
  clear l71 l72 l73 l74 l75 l76
  refine (niw_ok f g false (some ⟨b1, o1, none⟩) sc1 sz1 sz1.length rfl da1 dc1 dz1 dz1.length rfl false (some ⟨b2, o2, none⟩) sc2 sz2 sz2.length rfl da2 dc2 dz2 dz2.length rfl _ hf hg x11 x12 ((HI1.out.1.below hb70.out).mono hb70.out.size) ((HI1.out.2.1.1.below hb70.out).mono hb70.out.size) HI1.out.2.2.2 x21 x22 ((HI2.out.1.below hb70.out).mono hb70.out.size) ((HI2.out.2.1.1.below hb70.out).mono hb70.out.size) HI2.out.2.2.2 S1 D1 HNi HR1.out).mono ?_
  rintro e v4 ⟨xa1, xc1, ya1, yc1, rfl, hX1, hY1, hB⟩
  have z77 : y3.heap.size ≤ v4.heap.size := hB.size
  have B78 : Hid (Abx v4 (w.heap.size) (.bool false) (.slice (some ⟨b1, o1, none⟩) sz1.length sc1) (.slice da1 dz1.length dc1)) := B67.out.go hB
  have B79 : Hid (Abx v4 (w.heap.size + 1) (.bool false) (.slice (some ⟨b2, o2, none⟩) sz2.length sc2) (.slice da2 dz2.length dc2)) := B68.out.go hB
  have B80 : Hid (Abx v4 (w.heap.size + 1 + 1) (.bool false) (.slice (some ⟨b3, o3, none⟩) sz3.length sc3) (.slice da3 dz3.length dc3)) := B69.out.go hB
  have hb81 : Hid (Below w.heap.size w v4) := hb70.out.trans (hB.mono hb70.out.size)
  have L82 : Hid (MidC (y3.heap.size) (v4.heap.size) v4 (xa1) (S1) (xc1)) := hX1.midc
  have L83 : Hid (MidC (y3.heap.size) (v4.heap.size) v4 (ya1) (D1) (yc1)) := hY1.midc
  clear hB hb70 B67 B68 B69 hX1 hY1
  have n84 := Abx.new v4 (.bool false) (.slice xa1 S1.length xc1) (.slice ya1 D1.length yc1)
  have l85 := (n84).c0
  have l86 := (n84).c1
  have l87 := (n84).c2
  have l88 := ((B80.out.al (.cells #[.bool false, .slice xa1 S1.length xc1, .slice ya1 D1.length yc1] 25))).c0
  have l89 := ((B80.out.al (.cells #[.bool false, .slice xa1 S1.length xc1, .slice ya1 D1.length yc1] 25))).c1
  have l90 := ((B80.out.al (.cells #[.bool false, .slice xa1 S1.length xc1, .slice ya1 D1.length yc1] 25))).c2
  go_wp2_with fail
  obtain ⟨wo91, hwo91⟩ : ∃ wo91, wo91 = (v4.alloc (.cells #[.bool false, .slice xa1 S1.length xc1, .slice ya1 D1.length yc1] 25)) := ⟨_, rfl⟩
  rw [← hwo91]
  have z92 : v4.heap.size + 1 ≤ wo91.heap.size := by rw [hwo91]; simp only [World.size_alloc]; omega
  have B93 : Hid (Abx wo91 (w.heap.size) (.bool false) (.slice (some ⟨b1, o1, none⟩) sz1.length sc1) (.slice da1 dz1.length dc1)) := by rw [hwo91]; exact (B78.out.al (.cells #[.bool false, .slice xa1 S1.length xc1, .slice ya1 D1.length yc1] 25))
  have B94 : Hid (Abx wo91 (w.heap.size + 1) (.bool false) (.slice (some ⟨b2, o2, none⟩) sz2.length sc2) (.slice da2 dz2.length dc2)) := by rw [hwo91]; exact (B79.out.al (.cells #[.bool false, .slice xa1 S1.length xc1, .slice ya1 D1.length yc1] 25))
  have B95 : Hid (Abx wo91 (w.heap.size + 1 + 1) (.bool false) (.slice (some ⟨b3, o3, none⟩) sz3.length sc3) (.slice da3 dz3.length dc3)) := by rw [hwo91]; exact (B80.out.al (.cells #[.bool false, .slice xa1 S1.length xc1, .slice ya1 D1.length yc1] 25))
  have B96 : Hid (Abx wo91 (v4.heap.size) (.bool false) (.slice xa1 S1.length xc1) (.slice ya1 D1.length yc1)) := by rw [hwo91]; exact n84
  have L97 : Hid (MidC (y3.heap.size) (v4.heap.size) wo91 (xa1) (S1) (xc1)) := by rw [hwo91]; exact (L82.out.al (by omega) (.cells #[.bool false, .slice xa1 S1.length xc1, .slice ya1 D1.length yc1] 25))
  have L98 : Hid (MidC (y3.heap.size) (v4.heap.size) wo91 (ya1) (D1) (yc1)) := by rw [hwo91]; exact (L83.out.al (by omega) (.cells #[.bool false, .slice xa1 S1.length xc1, .slice ya1 D1.length yc1] 25))
  have hb99 : Hid (Below w.heap.size w wo91) := by rw [hwo91]; exact (hb81.out.alloc (by omega) (.cells #[.bool false, .slice xa1 S1.length xc1, .slice ya1 D1.length yc1] 25))
  have zwo91 : w.heap.size ≤ wo91.heap.size := hb99.out.size
  clear hwo91 n84 l85 l86 l87 l88 l89 l90 hb81 B78 B79 B80 L82 L83
  refine (niw_ok f g false xa1 xc1 S1 S1.length rfl ya1 yc1 D1 D1.length rfl false (some ⟨b3, o3, none⟩) sc3 sz3 sz3.length rfl da3 dc3 dz3 dz3.length rfl _ hf hg (by omega) (by omega) (L97.out.is (by omega)) (L98.out.is (by omega)).1 HTT.out.1 x31 x32 ((HI3.out.1.below hb99.out).mono hb99.out.size) ((HI3.out.2.1.1.below hb99.out).mono hb99.out.size) HI3.out.2.2.2 S2 D2 HNi HR2.out).mono ?_
  rintro e v5 ⟨xa2, xc2, ya2, yc2, rfl, hX2, hY2, hB⟩
  have z100 : wo91.heap.size ≤ v5.heap.size := hB.size
  have B101 : Hid (Abx v5 (w.heap.size) (.bool false) (.slice (some ⟨b1, o1, none⟩) sz1.length sc1) (.slice da1 dz1.length dc1)) := B93.out.go hB
  have B102 : Hid (Abx v5 (w.heap.size + 1) (.bool false) (.slice (some ⟨b2, o2, none⟩) sz2.length sc2) (.slice da2 dz2.length dc2)) := B94.out.go hB
  have B103 : Hid (Abx v5 (w.heap.size + 1 + 1) (.bool false) (.slice (some ⟨b3, o3, none⟩) sz3.length sc3) (.slice da3 dz3.length dc3)) := B95.out.go hB
  have B104 : Hid (Abx v5 (v4.heap.size) (.bool false) (.slice xa1 S1.length xc1) (.slice ya1 D1.length yc1)) := B96.out.go hB
  have L105 : Hid (MidC (y3.heap.size) (v4.heap.size) v5 (xa1) (S1) (xc1)) := L97.out.go (by omega) hB
  have L106 : Hid (MidC (y3.heap.size) (v4.heap.size) v5 (ya1) (D1) (yc1)) := L98.out.go (by omega) hB
  have hb107 : Hid (Below w.heap.size w v5) := hb99.out.trans (hB.mono hb99.out.size)
  have L108 : Hid (MidC (wo91.heap.size) (v5.heap.size) v5 (xa2) (S2) (xc2)) := hX2.midc
  have L109 : Hid (MidC (wo91.heap.size) (v5.heap.size) v5 (ya2) (D2) (yc2)) := hY2.midc
  clear hB hb99 B93 B94 B95 B96 L97 L98 hX2 hY2
  clear L105 L106
  have l110 := (B104.out).fr 0
  have l111 := (B104.out).c0
  have l112 := (B104.out).fr 1
  have l113 := (B104.out).c1
  have l114 := (B104.out).fr 2
  have l115 := (B104.out).c2
  have l116 := ((abx_o3 B102.out (B := v4.heap.size) (by omega) (.bool false) (.slice xa2 S2.length xc2) (.slice ya2 D2.length yc2))).c0
  have l117 := ((abx_o3 B102.out (B := v4.heap.size) (by omega) (.bool false) (.slice xa2 S2.length xc2) (.slice ya2 D2.length yc2))).c1
  have l118 := ((abx_o3 B102.out (B := v4.heap.size) (by omega) (.bool false) (.slice xa2 S2.length xc2) (.slice ya2 D2.length yc2))).c2
  have l119 := ((abx_o3 B103.out (B := v4.heap.size) (by omega) (.bool false) (.slice xa2 S2.length xc2) (.slice ya2 D2.length yc2))).c0
  have l120 := ((abx_o3 B103.out (B := v4.heap.size) (by omega) (.bool false) (.slice xa2 S2.length xc2) (.slice ya2 D2.length yc2))).c1
  have l121 := ((abx_o3 B103.out (B := v4.heap.size) (by omega) (.bool false) (.slice xa2 S2.length xc2) (.slice ya2 D2.length yc2))).c2
  go_wp2_with fail
  obtain ⟨wo122, hwo122⟩ : ∃ wo122, wo122 = (((v5.setCell ⟨v4.heap.size, 0, none⟩ (.bool false)).setCell ⟨v4.heap.size, 1, none⟩ (.slice xa2 S2.length xc2)).setCell ⟨v4.heap.size, 2, none⟩ (.slice ya2 D2.length yc2)) := ⟨_, rfl⟩
  rw [← hwo122]
  have z123 : v5.heap.size ≤ wo122.heap.size := by rw [hwo122]; simp only [World.size_setCell]; omega
  have B124 : Hid (Abx wo122 (w.heap.size) (.bool false) (.slice (some ⟨b1, o1, none⟩) sz1.length sc1) (.slice da1 dz1.length dc1)) := by rw [hwo122]; exact (abx_o3 B101.out (B := v4.heap.size) (by omega) (.bool false) (.slice xa2 S2.length xc2) (.slice ya2 D2.length yc2))
  have B125 : Hid (Abx wo122 (w.heap.size + 1) (.bool false) (.slice (some ⟨b2, o2, none⟩) sz2.length sc2) (.slice da2 dz2.length dc2)) := by rw [hwo122]; exact (abx_o3 B102.out (B := v4.heap.size) (by omega) (.bool false) (.slice xa2 S2.length xc2) (.slice ya2 D2.length yc2))
  have B126 : Hid (Abx wo122 (w.heap.size + 1 + 1) (.bool false) (.slice (some ⟨b3, o3, none⟩) sz3.length sc3) (.slice da3 dz3.length dc3)) := by rw [hwo122]; exact (abx_o3 B103.out (B := v4.heap.size) (by omega) (.bool false) (.slice xa2 S2.length xc2) (.slice ya2 D2.length yc2))
  have B127 : Hid (Abx wo122 (v4.heap.size) (.bool false) (.slice xa2 S2.length xc2) (.slice ya2 D2.length yc2)) := by rw [hwo122]; exact (B104.out.set3 (.bool false) (.slice xa2 S2.length xc2) (.slice ya2 D2.length yc2))
  have L128 : Hid (MidC (wo91.heap.size) (v5.heap.size) wo122 (xa2) (S2) (xc2)) := by rw [hwo122]; exact (L108.out.s3 (b := v4.heap.size) (by omega) (.bool false) (.slice xa2 S2.length xc2) (.slice ya2 D2.length yc2))
  have L129 : Hid (MidC (wo91.heap.size) (v5.heap.size) wo122 (ya2) (D2) (yc2)) := by rw [hwo122]; exact (L109.out.s3 (b := v4.heap.size) (by omega) (.bool false) (.slice xa2 S2.length xc2) (.slice ya2 D2.length yc2))
  have hb130 : Hid (Below w.heap.size w wo122) := by rw [hwo122]; exact (bel_s3 hb107.out (B := v4.heap.size) (by omega) (.bool false) (.slice xa2 S2.length xc2) (.slice ya2 D2.length yc2))
  have zwo122 : w.heap.size ≤ wo122.heap.size := hb130.out.size
  clear hwo122 l110 l111 l112 l113 l114 l115 l116 l117 l118 l119 l120 l121 hb107 B101 B102 B103 B104 L108 L109
  refine (niw_ok f g false (some ⟨b2, o2, none⟩) sc2 sz2 sz2.length rfl da2 dc2 dz2 dz2.length rfl false (some ⟨b3, o3, none⟩) sc3 sz3 sz3.length rfl da3 dc3 dz3 dz3.length rfl _ hf hg x21 x22 ((HI2.out.1.below hb130.out).mono hb130.out.size) ((HI2.out.2.1.1.below hb130.out).mono hb130.out.size) HI2.out.2.2.2 x31 x32 ((HI3.out.1.below hb130.out).mono hb130.out.size) ((HI3.out.2.1.1.below hb130.out).mono hb130.out.size) HI3.out.2.2.2 S3 D3 HNi HR3.out).mono ?_
  rintro e v6 ⟨xa3, xc3, ya3, yc3, rfl, hX3, hY3, hB⟩
  have z131 : wo122.heap.size ≤ v6.heap.size := hB.size
  have B132 : Hid (Abx v6 (w.heap.size) (.bool false) (.slice (some ⟨b1, o1, none⟩) sz1.length sc1) (.slice da1 dz1.length dc1)) := B124.out.go hB
  have B133 : Hid (Abx v6 (w.heap.size + 1) (.bool false) (.slice (some ⟨b2, o2, none⟩) sz2.length sc2) (.slice da2 dz2.length dc2)) := B125.out.go hB
  have B134 : Hid (Abx v6 (w.heap.size + 1 + 1) (.bool false) (.slice (some ⟨b3, o3, none⟩) sz3.length sc3) (.slice da3 dz3.length dc3)) := B126.out.go hB
  have B135 : Hid (Abx v6 (v4.heap.size) (.bool false) (.slice xa2 S2.length xc2) (.slice ya2 D2.length yc2)) := B127.out.go hB
  have L136 : Hid (MidC (wo91.heap.size) (v5.heap.size) v6 (xa2) (S2) (xc2)) := L128.out.go (by omega) hB
  have L137 : Hid (MidC (wo91.heap.size) (v5.heap.size) v6 (ya2) (D2) (yc2)) := L129.out.go (by omega) hB
  have hb138 : Hid (Below w.heap.size w v6) := hb130.out.trans (hB.mono hb130.out.size)
  have L139 : Hid (MidC (wo122.heap.size) (v6.heap.size) v6 (xa3) (S3) (xc3)) := hX3.midc
  have L140 : Hid (MidC (wo122.heap.size) (v6.heap.size) v6 (ya3) (D3) (yc3)) := hY3.midc
  clear hB hb130 B124 B125 B126 B127 L128 L129 hX3 hY3
  have n141 := Abx.new v6 (.bool false) (.slice xa3 S3.length xc3) (.slice ya3 D3.length yc3)
  have l142 := (n141).c0
  have l143 := (n141).c1
  have l144 := (n141).c2
  have l145 := ((B132.out.al (.cells #[.bool false, .slice xa3 S3.length xc3, .slice ya3 D3.length yc3] 25))).c0
  have l146 := ((B132.out.al (.cells #[.bool false, .slice xa3 S3.length xc3, .slice ya3 D3.length yc3] 25))).c1
  have l147 := ((B132.out.al (.cells #[.bool false, .slice xa3 S3.length xc3, .slice ya3 D3.length yc3] 25))).c2
  go_wp2_with fail
  obtain ⟨wo148, hwo148⟩ : ∃ wo148, wo148 = (v6.alloc (.cells #[.bool false, .slice xa3 S3.length xc3, .slice ya3 D3.length yc3] 25)) := ⟨_, rfl⟩
  rw [← hwo148]
  have z149 : v6.heap.size + 1 ≤ wo148.heap.size := by rw [hwo148]; simp only [World.size_alloc]; omega
  have B150 : Hid (Abx wo148 (w.heap.size) (.bool false) (.slice (some ⟨b1, o1, none⟩) sz1.length sc1) (.slice da1 dz1.length dc1)) := by rw [hwo148]; exact (B132.out.al (.cells #[.bool false, .slice xa3 S3.length xc3, .slice ya3 D3.length yc3] 25))
  have B151 : Hid (Abx wo148 (w.heap.size + 1) (.bool false) (.slice (some ⟨b2, o2, none⟩) sz2.length sc2) (.slice da2 dz2.length dc2)) := by rw [hwo148]; exact (B133.out.al (.cells #[.bool false, .slice xa3 S3.length xc3, .slice ya3 D3.length yc3] 25))
  have B152 : Hid (Abx wo148 (w.heap.size + 1 + 1) (.bool false) (.slice (some ⟨b3, o3, none⟩) sz3.length sc3) (.slice da3 dz3.length dc3)) := by rw [hwo148]; exact (B134.out.al (.cells #[.bool false, .slice xa3 S3.length xc3, .slice ya3 D3.length yc3] 25))
  have B153 : Hid (Abx wo148 (v4.heap.size) (.bool false) (.slice xa2 S2.length xc2) (.slice ya2 D2.length yc2)) := by rw [hwo148]; exact (B135.out.al (.cells #[.bool false, .slice xa3 S3.length xc3, .slice ya3 D3.length yc3] 25))
  have B154 : Hid (Abx wo148 (v6.heap.size) (.bool false) (.slice xa3 S3.length xc3) (.slice ya3 D3.length yc3)) := by rw [hwo148]; exact n141
  have L155 : Hid (MidC (wo91.heap.size) (v5.heap.size) wo148 (xa2) (S2) (xc2)) := by rw [hwo148]; exact (L136.out.al (by omega) (.cells #[.bool false, .slice xa3 S3.length xc3, .slice ya3 D3.length yc3] 25))
  have L156 : Hid (MidC (wo91.heap.size) (v5.heap.size) wo148 (ya2) (D2) (yc2)) := by rw [hwo148]; exact (L137.out.al (by omega) (.cells #[.bool false, .slice xa3 S3.length xc3, .slice ya3 D3.length yc3] 25))
  have L157 : Hid (MidC (wo122.heap.size) (v6.heap.size) wo148 (xa3) (S3) (xc3)) := by rw [hwo148]; exact (L139.out.al (by omega) (.cells #[.bool false, .slice xa3 S3.length xc3, .slice ya3 D3.length yc3] 25))
  have L158 : Hid (MidC (wo122.heap.size) (v6.heap.size) wo148 (ya3) (D3) (yc3)) := by rw [hwo148]; exact (L140.out.al (by omega) (.cells #[.bool false, .slice xa3 S3.length xc3, .slice ya3 D3.length yc3] 25))
  have hb159 : Hid (Below w.heap.size w wo148) := by rw [hwo148]; exact (hb138.out.alloc (by omega) (.cells #[.bool false, .slice xa3 S3.length xc3, .slice ya3 D3.length yc3] 25))
  have zwo148 : w.heap.size ≤ wo148.heap.size := hb159.out.size
  clear hwo148 n141 l142 l143 l144 l145 l146 l147 hb138 B132 B133 B134 B135 L136 L137 L139 L140
  refine (niw_ok f g false (some ⟨b1, o1, none⟩) sc1 sz1 sz1.length rfl da1 dc1 dz1 dz1.length rfl false xa3 xc3 S3 S3.length rfl ya3 yc3 D3 D3.length rfl _ hf hg x11 x12 ((HI1.out.1.below hb159.out).mono hb159.out.size) ((HI1.out.2.1.1.below hb159.out).mono hb159.out.size) HI1.out.2.2.2 (by omega) (by omega) (L157.out.is (by omega)) (L158.out.is (by omega)).1 HTT.out.2 S2 D2 HNi HR4.out).mono ?_
  rintro e v7 ⟨xa4, xc4, ya4, yc4, rfl, hX4, hY4, hB⟩
  have z160 : wo148.heap.size ≤ v7.heap.size := hB.size
  have B161 : Hid (Abx v7 (w.heap.size) (.bool false) (.slice (some ⟨b1, o1, none⟩) sz1.length sc1) (.slice da1 dz1.length dc1)) := B150.out.go hB
  have B162 : Hid (Abx v7 (w.heap.size + 1) (.bool false) (.slice (some ⟨b2, o2, none⟩) sz2.length sc2) (.slice da2 dz2.length dc2)) := B151.out.go hB
  have B163 : Hid (Abx v7 (w.heap.size + 1 + 1) (.bool false) (.slice (some ⟨b3, o3, none⟩) sz3.length sc3) (.slice da3 dz3.length dc3)) := B152.out.go hB
  have B164 : Hid (Abx v7 (v4.heap.size) (.bool false) (.slice xa2 S2.length xc2) (.slice ya2 D2.length yc2)) := B153.out.go hB
  have B165 : Hid (Abx v7 (v6.heap.size) (.bool false) (.slice xa3 S3.length xc3) (.slice ya3 D3.length yc3)) := B154.out.go hB
  have L166 : Hid (MidC (wo91.heap.size) (v5.heap.size) v7 (xa2) (S2) (xc2)) := L155.out.go (by omega) hB
  have L167 : Hid (MidC (wo91.heap.size) (v5.heap.size) v7 (ya2) (D2) (yc2)) := L156.out.go (by omega) hB
  have L168 : Hid (MidC (wo122.heap.size) (v6.heap.size) v7 (xa3) (S3) (xc3)) := L157.out.go (by omega) hB
  have L169 : Hid (MidC (wo122.heap.size) (v6.heap.size) v7 (ya3) (D3) (yc3)) := L158.out.go (by omega) hB
  have hb170 : Hid (Below w.heap.size w v7) := hb159.out.trans (hB.mono hb159.out.size)
  have L171 : Hid (MidC (wo148.heap.size) (v7.heap.size) v7 (xa4) (S2) (xc4)) := hX4.midc
  have L172 : Hid (MidC (wo148.heap.size) (v7.heap.size) v7 (ya4) (D2) (yc4)) := hY4.midc
  clear hB hb159 B150 B151 B152 B153 B154 L155 L156 L157 L158 hX4 hY4
  clear L168 L169
  have l173 := (B165.out).fr 0
  have l174 := (B165.out).c0
  have l175 := (B165.out).fr 1
  have l176 := (B165.out).c1
  have l177 := (B165.out).fr 2
  have l178 := (B165.out).c2
  have l179 := ((abx_o3 B164.out (B := v6.heap.size) (by omega) (.bool false) (.slice xa4 S2.length xc4) (.slice ya4 D2.length yc4))).c0
  have l180 := ((abx_o3 B164.out (B := v6.heap.size) (by omega) (.bool false) (.slice xa4 S2.length xc4) (.slice ya4 D2.length yc4))).c1
  have l181 := ((abx_o3 B164.out (B := v6.heap.size) (by omega) (.bool false) (.slice xa4 S2.length xc4) (.slice ya4 D2.length yc4))).c2
  have l182 := ((B165.out.set3 (.bool false) (.slice xa4 S2.length xc4) (.slice ya4 D2.length yc4))).c0
  have l183 := ((B165.out.set3 (.bool false) (.slice xa4 S2.length xc4) (.slice ya4 D2.length yc4))).c1
  have l184 := ((B165.out.set3 (.bool false) (.slice xa4 S2.length xc4) (.slice ya4 D2.length yc4))).c2
  go_wp2_with fail
  obtain ⟨wo185, hwo185⟩ : ∃ wo185, wo185 = (((v7.setCell ⟨v6.heap.size, 0, none⟩ (.bool false)).setCell ⟨v6.heap.size, 1, none⟩ (.slice xa4 S2.length xc4)).setCell ⟨v6.heap.size, 2, none⟩ (.slice ya4 D2.length yc4)) := ⟨_, rfl⟩
  rw [← hwo185]
  have z186 : v7.heap.size ≤ wo185.heap.size := by rw [hwo185]; simp only [World.size_setCell]; omega
  have B187 : Hid (Abx wo185 (w.heap.size) (.bool false) (.slice (some ⟨b1, o1, none⟩) sz1.length sc1) (.slice da1 dz1.length dc1)) := by rw [hwo185]; exact (abx_o3 B161.out (B := v6.heap.size) (by omega) (.bool false) (.slice xa4 S2.length xc4) (.slice ya4 D2.length yc4))
  have B188 : Hid (Abx wo185 (w.heap.size + 1) (.bool false) (.slice (some ⟨b2, o2, none⟩) sz2.length sc2) (.slice da2 dz2.length dc2)) := by rw [hwo185]; exact (abx_o3 B162.out (B := v6.heap.size) (by omega) (.bool false) (.slice xa4 S2.length xc4) (.slice ya4 D2.length yc4))
  have B189 : Hid (Abx wo185 (w.heap.size + 1 + 1) (.bool false) (.slice (some ⟨b3, o3, none⟩) sz3.length sc3) (.slice da3 dz3.length dc3)) := by rw [hwo185]; exact (abx_o3 B163.out (B := v6.heap.size) (by omega) (.bool false) (.slice xa4 S2.length xc4) (.slice ya4 D2.length yc4))
  have B190 : Hid (Abx wo185 (v4.heap.size) (.bool false) (.slice xa2 S2.length xc2) (.slice ya2 D2.length yc2)) := by rw [hwo185]; exact (abx_o3 B164.out (B := v6.heap.size) (by omega) (.bool false) (.slice xa4 S2.length xc4) (.slice ya4 D2.length yc4))
  have B191 : Hid (Abx wo185 (v6.heap.size) (.bool false) (.slice xa4 S2.length xc4) (.slice ya4 D2.length yc4)) := by rw [hwo185]; exact (B165.out.set3 (.bool false) (.slice xa4 S2.length xc4) (.slice ya4 D2.length yc4))
  have L192 : Hid (MidC (wo91.heap.size) (v5.heap.size) wo185 (xa2) (S2) (xc2)) := by rw [hwo185]; exact (L166.out.s3 (b := v6.heap.size) (by omega) (.bool false) (.slice xa4 S2.length xc4) (.slice ya4 D2.length yc4))
  have L193 : Hid (MidC (wo91.heap.size) (v5.heap.size) wo185 (ya2) (D2) (yc2)) := by rw [hwo185]; exact (L167.out.s3 (b := v6.heap.size) (by omega) (.bool false) (.slice xa4 S2.length xc4) (.slice ya4 D2.length yc4))
  have L194 : Hid (MidC (wo148.heap.size) (v7.heap.size) wo185 (xa4) (S2) (xc4)) := by rw [hwo185]; exact (L171.out.s3 (b := v6.heap.size) (by omega) (.bool false) (.slice xa4 S2.length xc4) (.slice ya4 D2.length yc4))
  have L195 : Hid (MidC (wo148.heap.size) (v7.heap.size) wo185 (ya4) (D2) (yc4)) := by rw [hwo185]; exact (L172.out.s3 (b := v6.heap.size) (by omega) (.bool false) (.slice xa4 S2.length xc4) (.slice ya4 D2.length yc4))
  have hb196 : Hid (Below w.heap.size w wo185) := by rw [hwo185]; exact (bel_s3 hb170.out (B := v6.heap.size) (by omega) (.bool false) (.slice xa4 S2.length xc4) (.slice ya4 D2.length yc4))
  have zwo185 : w.heap.size ≤ wo185.heap.size := hb196.out.size
  clear hwo185 l173 l174 l175 l176 l177 l178 l179 l180 l181 l182 l183 l184 hb170 B161 B162 B163 B164 B165 L166 L167 L171 L172
  refine (alike_eq false xa2 xc2 S2 ya2 yc2 D2 xa4 xc4 S2 ya4 yc4 D2 rfl rfl (by omega) (by omega) _ (L192.out.is (by omega)) (L193.out.is (by omega)).1 (L194.out.is (by omega)) (L195.out.is (by omega)).1).mono ?_
  rintro e v8 ⟨rfl, hB⟩
  have z197 : wo185.heap.size ≤ v8.heap.size := hB.size
  have B198 : Hid (Abx v8 (w.heap.size) (.bool false) (.slice (some ⟨b1, o1, none⟩) sz1.length sc1) (.slice da1 dz1.length dc1)) := B187.out.go hB
  have B199 : Hid (Abx v8 (w.heap.size + 1) (.bool false) (.slice (some ⟨b2, o2, none⟩) sz2.length sc2) (.slice da2 dz2.length dc2)) := B188.out.go hB
  have B200 : Hid (Abx v8 (w.heap.size + 1 + 1) (.bool false) (.slice (some ⟨b3, o3, none⟩) sz3.length sc3) (.slice da3 dz3.length dc3)) := B189.out.go hB
  have B201 : Hid (Abx v8 (v4.heap.size) (.bool false) (.slice xa2 S2.length xc2) (.slice ya2 D2.length yc2)) := B190.out.go hB
  have B202 : Hid (Abx v8 (v6.heap.size) (.bool false) (.slice xa4 S2.length xc4) (.slice ya4 D2.length yc4)) := B191.out.go hB
  have L203 : Hid (MidC (wo91.heap.size) (v5.heap.size) v8 (xa2) (S2) (xc2)) := L192.out.go (by omega) hB
  have L204 : Hid (MidC (wo91.heap.size) (v5.heap.size) v8 (ya2) (D2) (yc2)) := L193.out.go (by omega) hB
  have L205 : Hid (MidC (wo148.heap.size) (v7.heap.size) v8 (xa4) (S2) (xc4)) := L194.out.go (by omega) hB
  have L206 : Hid (MidC (wo148.heap.size) (v7.heap.size) v8 (ya4) (D2) (yc4)) := L195.out.go (by omega) hB
  have hb207 : Hid (Below w.heap.size w v8) := hb196.out.trans (hB.mono hb196.out.size)
  clear hB hb196 B187 B188 B189 B190 B191 L192 L193 L194 L195
  go_wp2_with fail
  go_ret
  exact ⟨rfl, hb207.out⟩
theorem pchain_walk (HNi : CNi) (f g : Int) (hf : In64 f) (hg : In64 g) (c1 : Bool) (sa1 : Option Addr) (sc1 : Nat) (sz1 : List Int) (da1 : Option Addr) (dc1 : Nat) (dz1 : List Int) (c2 : Bool) (sa2 : Option Addr) (sc2 : Nat) (sz2 : List Int) (da2 : Option Addr) (dc2 : Nat) (dz2 : List Int) (c3 : Bool) (sa3 : Option Addr) (sc3 : Nat) (sz3 : List Int) (da3 : Option Addr) (dc3 : Nat) (dz3 : List Int) (w : World) (w8 : IsArrD w sa1 sz1 sc1 da1 dz1 dc1) (w9 : IsArrD w sa2 sz2 sc2 da2 dz2 dc2) (w10 : IsArrD w sa3 sz3 sc3 da3 dz3 dc3) :
    Calls Try.prog 3 #[.int .i64 f, .int .i64 g, .agg #[.bool c1, .slice sa1 sz1.length sc1, .slice da1 dz1.length dc1], .agg #[.bool c2, .slice sa2 sz2.length sc2, .slice da2 dz2.length dc2], .agg #[.bool c3, .slice sa3 sz3.length sc3, .slice da3 dz3.length dc3]] w fun e w' => e = .returned (.bool true) ∧ Below w.heap.size w w' := by
  by_cases h0 : Srg f g
  · by_cases h1 : GrdP 16 c1 sz1 dz1
    · by_cases h2 : GrdP 16 c2 sz2 dz2
      · by_cases h3 : GrdP 16 c3 sz3 dz3
        · by_cases e1 : nth sz1 1 = nth sz2 0
          · by_cases e2 : nth sz2 1 = nth sz3 0
            · exact chain_ok HNi f g hf hg c1 sa1 sc1 sz1 da1 dc1 dz1 c2 sa2 sc2 sz2 da2 dc2 dz2 c3 sa3 sc3 sz3 da3 dc3 dz3 w w8 w9 w10 h0 h1 h2 h3 e1 e2
            · exact chain_bc HNi f g hf hg c1 sa1 sc1 sz1 da1 dc1 dz1 c2 sa2 sc2 sz2 da2 dc2 dz2 c3 sa3 sc3 sz3 da3 dc3 dz3 w w8 w9 w10 h0 h1 h2 h3 e1 e2
          · exact chain_ab HNi f g hf hg c1 sa1 sc1 sz1 da1 dc1 dz1 c2 sa2 sc2 sz2 da2 dc2 dz2 c3 sa3 sc3 sz3 da3 dc3 dz3 w w8 w9 w10 h0 h1 h2 h3 e1
        · exact chain_g3 HNi f g hf hg c1 sa1 sc1 sz1 da1 dc1 dz1 c2 sa2 sc2 sz2 da2 dc2 dz2 c3 sa3 sc3 sz3 da3 dc3 dz3 w w8 w9 w10 h0 h1 h2 h3
      · exact chain_g2 HNi f g hf hg c1 sa1 sc1 sz1 da1 dc1 dz1 c2 sa2 sc2 sz2 da2 dc2 dz2 c3 sa3 sc3 sz3 da3 dc3 dz3 w w8 w9 w10 h0 h1 h2
    · exact chain_g1 HNi f g hf hg c1 sa1 sc1 sz1 da1 dc1 dz1 c2 sa2 sc2 sz2 da2 dc2 dz2 c3 sa3 sc3 sz3 da3 dc3 dz3 w w8 w9 w10 h0 h1
  · exact chain_s HNi f g hf hg c1 sa1 sc1 sz1 da1 dc1 dz1 c2 sa2 sc2 sz2 da2 dc2 dz2 c3 sa3 sc3 sz3 da3 dc3 dz3 w w8 w9 w10 h0
end Go.Proofs.Ytcpmendkocnlhaa
