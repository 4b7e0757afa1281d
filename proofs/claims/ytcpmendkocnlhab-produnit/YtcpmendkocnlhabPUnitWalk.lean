/-
  The walk of the statement ProdUnit, given what the program tells.
-/
import Derived.Test.YtcpmendkocnlhabPrdu
import Derived.Test.YtcpmendkocnlhabPrdw
import Derived.Test.YtcpmendkocnlhabFldx
import Derived.Test.YtcpmendkocnlhabMidc
import Derived.Test.YtcpmendkocnlhabSarr
namespace Go.Proofs.Ytcpmendkocnlhab
open Go.RowKit
set_option linter.unusedVariables false

set_option maxRecDepth 100000 in
set_option maxHeartbeats 8000000 in
theorem unit_g (HNi : CNi) (HOt : COt) (c1 : Bool) (sa1 : Option Addr) (sc1 : Nat) (sz1 : List Int) (da1 : Option Addr) (dc1 : Nat) (dz1 : List Int) (w : World) (w8 : IsArrD w sa1 sz1 sc1 da1 dz1 dc1) (G1 : Hid (¬ GrdP 16 c1 sz1 dz1)) :
    Calls Try.prog 3 #[.agg #[.bool c1, .slice sa1 sz1.length sc1, .slice da1 dz1.length dc1]] w fun e w' => e = .returned (.bool true) ∧ Below w.heap.size w w' := by
  obtain ⟨x11, x12, x3, x4, s64, T⟩ := w8
  have HI1 : Hid (IsC w.heap.size w sa1 sz1 sc1 ∧ IsC w.heap.size w da1 dz1 dc1 ∧ (∀ j, In64 (nth sz1 j)) ∧ ∀ j, In64 (nth dz1 j)) := ⟨x3, x4, s64, T⟩
  clear x3 x4 T s64
  have n1 := Abx.new w (.bool c1) (.slice sa1 sz1.length sc1) (.slice da1 dz1.length dc1)
  go_enter Try.func3, Try.ntmps3
  go_wp2_with fail
  obtain ⟨wo2, hwo2⟩ : ∃ wo2, wo2 = (w.alloc (.cells #[.bool c1, .slice sa1 sz1.length sc1, .slice da1 dz1.length dc1] 24)) := ⟨_, rfl⟩
  rw [← hwo2]
  have z3 : w.heap.size + 1 ≤ wo2.heap.size := by rw [hwo2]; simp only [World.size_alloc]; omega
  have B4 : Hid (Abx wo2 (w.heap.size) (.bool c1) (.slice sa1 sz1.length sc1) (.slice da1 dz1.length dc1)) := by rw [hwo2]; exact n1
  have hb5 : Hid (Below w.heap.size w wo2) := by rw [hwo2]; exact ((Below.refl w.heap.size w).alloc (by omega) (.cells #[.bool c1, .slice sa1 sz1.length sc1, .slice da1 dz1.length dc1] 24))
  have zwo2 : w.heap.size ≤ wo2.heap.size := hb5.out.size
  clear hwo2 n1
  refine (io13 2 2 rfl (by decide) [0, 1] 2 rfl rfl _).mono ?_
  rintro e v1 ⟨xa0, xc0, ya0, yc0, rfl, hX0, hY0, hB⟩
  have z6 : wo2.heap.size ≤ v1.heap.size := hB.size
  have B7 : Hid (Abx v1 (w.heap.size) (.bool c1) (.slice sa1 sz1.length sc1) (.slice da1 dz1.length dc1)) := B4.out.go hB
  have hb8 : Hid (Below w.heap.size w v1) := hb5.out.trans (hB.mono hb5.out.size)
  have L9 : Hid (MidC (wo2.heap.size) (v1.heap.size) v1 (xa0) ([2]) (xc0)) := hX0.midc
  have L10 : Hid (MidC (wo2.heap.size) (v1.heap.size) v1 (ya0) ([0, 1]) (yc0)) := hY0.midc
  clear hB hb5 B4 hX0 hY0
  have n11 := Abx.new v1 (.bool false) (.slice xa0 1 xc0) (.slice ya0 2 yc0)
  have l12 := (n11).c0
  have l13 := (n11).c1
  have l14 := (n11).c2
  go_wp2_with fail
  obtain ⟨wo15, hwo15⟩ : ∃ wo15, wo15 = (v1.alloc (.cells #[.bool false, .slice xa0 1 xc0, .slice ya0 2 yc0] 24)) := ⟨_, rfl⟩
  rw [← hwo15]
  have z16 : v1.heap.size + 1 ≤ wo15.heap.size := by rw [hwo15]; simp only [World.size_alloc]; omega
  have B17 : Hid (Abx wo15 (w.heap.size) (.bool c1) (.slice sa1 sz1.length sc1) (.slice da1 dz1.length dc1)) := by rw [hwo15]; exact (B7.out.al (.cells #[.bool false, .slice xa0 1 xc0, .slice ya0 2 yc0] 24))
  have B18 : Hid (Abx wo15 (v1.heap.size) (.bool false) (.slice xa0 1 xc0) (.slice ya0 2 yc0)) := by rw [hwo15]; exact n11
  have L19 : Hid (MidC (wo2.heap.size) (v1.heap.size) wo15 (xa0) ([2]) (xc0)) := by rw [hwo15]; exact (L9.out.al (by omega) (.cells #[.bool false, .slice xa0 1 xc0, .slice ya0 2 yc0] 24))
  have L20 : Hid (MidC (wo2.heap.size) (v1.heap.size) wo15 (ya0) ([0, 1]) (yc0)) := by rw [hwo15]; exact (L10.out.al (by omega) (.cells #[.bool false, .slice xa0 1 xc0, .slice ya0 2 yc0] 24))
  have hb21 : Hid (Below w.heap.size w wo15) := by rw [hwo15]; exact (hb8.out.alloc (by omega) (.cells #[.bool false, .slice xa0 1 xc0, .slice ya0 2 yc0] 24))
  have zwo15 : w.heap.size ≤ wo15.heap.size := hb21.out.size
  clear hwo15 n11 l12 l13 l14 hb8 B7 L9 L10
  refine (otw_ok 8 false xa0 xc0 [2] 1 rfl ya0 yc0 [0, 1] 2 rfl false xa0 xc0 [2] 1 rfl ya0 yc0 [0, 1] 2 rfl _ (by unfold In64; decide) (by decide) (by decide) (L19.out.is (by omega)).1 (L20.out.is (by omega)).1 (lit12 (by decide)) (by decide) (by decide) (L19.out.is (by omega)).1 (L20.out.is (by omega)).1 (lit12 (by decide)) [2, 2] [1, 0, 0, 1] HOt (by show otE 8 false [2] [0, 1] false [2] [0, 1] = 0 ∧ [(2 : Int)] ++ [2] = [2, 2] ∧ otD 8 false [2] [0, 1] false [2] [0, 1] = [1, 0, 0, 1]; decide +kernel)).mono ?_
  rintro e v2 ⟨f1, g1, f2, g2, rfl, hX0, hY0, hB⟩
  have z22 : wo15.heap.size ≤ v2.heap.size := hB.size
  have B23 : Hid (Abx v2 (w.heap.size) (.bool c1) (.slice sa1 sz1.length sc1) (.slice da1 dz1.length dc1)) := B17.out.go hB
  have B24 : Hid (Abx v2 (v1.heap.size) (.bool false) (.slice xa0 1 xc0) (.slice ya0 2 yc0)) := B18.out.go hB
  have L25 : Hid (MidC (wo2.heap.size) (v1.heap.size) v2 (xa0) ([2]) (xc0)) := L19.out.go (by omega) hB
  have L26 : Hid (MidC (wo2.heap.size) (v1.heap.size) v2 (ya0) ([0, 1]) (yc0)) := L20.out.go (by omega) hB
  have hb27 : Hid (Below w.heap.size w v2) := hb21.out.trans (hB.mono hb21.out.size)
  have L28 : Hid (MidC (wo15.heap.size) (v2.heap.size) v2 (f1) ([2, 2]) (g1)) := hX0.midc
  have L29 : Hid (MidC (wo15.heap.size) (v2.heap.size) v2 (f2) ([1, 0, 0, 1]) (g2)) := hY0.midc
  clear hB hb21 B17 B18 L19 L20 hX0 hY0
  clear L25 L26 B24
  have n30 := Abx.new v2 (.bool false) (.slice f1 2 g1) (.slice f2 4 g2)
  have l31 := (n30).c0
  have l32 := (n30).c1
  have l33 := (n30).c2
  have n34 := lit_mid (v2.alloc (.cells #[.bool false, .slice f1 2 g1, .slice f2 4 g2] 24)) 3 [1, 0, 0, 1] 4 rfl
  simp only [World.size_alloc, List.map_cons, List.map_nil] at n34
  go_wp2_with fail
  obtain ⟨wo35, hwo35⟩ : ∃ wo35, wo35 = ((v2.alloc (.cells #[.bool false, .slice f1 2 g1, .slice f2 4 g2] 24)).alloc (.cells #[.int .i64 1, .int .i64 0, .int .i64 0, .int .i64 1] 3)) := ⟨_, rfl⟩
  rw [← hwo35]
  have z36 : v2.heap.size + 1 + 1 ≤ wo35.heap.size := by rw [hwo35]; simp only [World.size_alloc]; omega
  have B37 : Hid (Abx wo35 (w.heap.size) (.bool c1) (.slice sa1 sz1.length sc1) (.slice da1 dz1.length dc1)) := by rw [hwo35]; exact ((B23.out.al (.cells #[.bool false, .slice f1 2 g1, .slice f2 4 g2] 24)).al (.cells #[.int .i64 1, .int .i64 0, .int .i64 0, .int .i64 1] 3))
  have B38 : Hid (Abx wo35 (v2.heap.size) (.bool false) (.slice f1 2 g1) (.slice f2 4 g2)) := by rw [hwo35]; exact (n30.al (.cells #[.int .i64 1, .int .i64 0, .int .i64 0, .int .i64 1] 3))
  have L39 : Hid (MidC (wo15.heap.size) (v2.heap.size) wo35 (f1) ([2, 2]) (g1)) := by rw [hwo35]; exact ((L28.out.al (by omega) (.cells #[.bool false, .slice f1 2 g1, .slice f2 4 g2] 24)).al (by simp only [World.size_alloc]; omega) (.cells #[.int .i64 1, .int .i64 0, .int .i64 0, .int .i64 1] 3))
  have L40 : Hid (MidC (wo15.heap.size) (v2.heap.size) wo35 (f2) ([1, 0, 0, 1]) (g2)) := by rw [hwo35]; exact ((L29.out.al (by omega) (.cells #[.bool false, .slice f1 2 g1, .slice f2 4 g2] 24)).al (by simp only [World.size_alloc]; omega) (.cells #[.int .i64 1, .int .i64 0, .int .i64 0, .int .i64 1] 3))
  have L41 : Hid (MidC (v2.heap.size + 1) (v2.heap.size + 1 + 1) wo35 (some ⟨v2.heap.size + 1, 0, none⟩) ([1, 0, 0, 1]) (4)) := by rw [hwo35]; exact n34
  have hb42 : Hid (Below w.heap.size w wo35) := by rw [hwo35]; exact ((hb27.out.alloc (by omega) (.cells #[.bool false, .slice f1 2 g1, .slice f2 4 g2] 24)).alloc (by simp only [World.size_alloc]; omega) (.cells #[.int .i64 1, .int .i64 0, .int .i64 0, .int .i64 1] 3))
  have zwo35 : w.heap.size ≤ wo35.heap.size := hb42.out.size
  clear hwo35 n30 l31 l32 l33 n34 hb27 B23 L28 L29
  refine (ints_any f2 g2 [1, 0, 0, 1] (some ⟨v2.heap.size + 1, 0, none⟩) 4 [1, 0, 0, 1] (by simp) _ _ (L40.out.is (by omega)).1 (L41.out.is (by omega)).1).mono ?_
  rintro e v3 ⟨rfl, hB⟩
  have z43 : wo35.heap.size ≤ v3.heap.size := hB.size
  have B44 : Hid (Abx v3 (w.heap.size) (.bool c1) (.slice sa1 sz1.length sc1) (.slice da1 dz1.length dc1)) := B37.out.go hB
  have B45 : Hid (Abx v3 (v2.heap.size) (.bool false) (.slice f1 2 g1) (.slice f2 4 g2)) := B38.out.go hB
  have L46 : Hid (MidC (wo15.heap.size) (v2.heap.size) v3 (f1) ([2, 2]) (g1)) := L39.out.go (by omega) hB
  have L47 : Hid (MidC (wo15.heap.size) (v2.heap.size) v3 (f2) ([1, 0, 0, 1]) (g2)) := L40.out.go (by omega) hB
  have L48 : Hid (MidC (v2.heap.size + 1) (v2.heap.size + 1 + 1) v3 (some ⟨v2.heap.size + 1, 0, none⟩) ([1, 0, 0, 1]) (4)) := L41.out.go (by omega) hB
  have hb49 : Hid (Below w.heap.size w v3) := hb42.out.trans (hB.mono hb42.out.size)
  clear hB hb42 B37 B38 L39 L40 L41
  rw [eqB_true rfl]
  clear L46 L47 L48 B45
  have l50 := (B44.out).c0
  have l51 := (B44.out).c1
  have l52 := (B44.out).c2
  go_wp2_with fail
  clear l50 l51 l52
  refine (grid_no 16 (by decide) c1 sa1 sc1 sz1 da1 dc1 dz1 _ ((HI1.out.1.1.below hb49.out).mono hb49.out.size) G1.out).mono ?_
  rintro e v4 ⟨rfl, hB⟩
  have z53 : v3.heap.size ≤ v4.heap.size := hB.size
  have B54 : Hid (Abx v4 (w.heap.size) (.bool c1) (.slice sa1 sz1.length sc1) (.slice da1 dz1.length dc1)) := B44.out.go hB
  have hb55 : Hid (Below w.heap.size w v4) := hb49.out.trans (hB.mono hb49.out.size)
  clear hB hb49 B44
  go_wp2_with fail
  go_ret
  exact ⟨rfl, hb55.out⟩
set_option maxRecDepth 100000 in
set_option maxHeartbeats 8000000 in
theorem unit_ok (HNi : CNi) (HOt : COt) (c1 : Bool) (sa1 : Option Addr) (sc1 : Nat) (sz1 : List Int) (da1 : Option Addr) (dc1 : Nat) (dz1 : List Int) (w : World) (w8 : IsArrD w sa1 sz1 sc1 da1 dz1 dc1) (G1 : Hid (GrdP 16 c1 sz1 dz1)) :
    Calls Try.prog 3 #[.agg #[.bool c1, .slice sa1 sz1.length sc1, .slice da1 dz1.length dc1]] w fun e w' => e = .returned (.bool true) ∧ Below w.heap.size w w' := by
  obtain ⟨b1, o1, rfl, hq1, hc1⟩ := w8.2.2.1.1.at (q := 0) (by rw [G1.out.2.1]; decide)
  have hcf1 := G1.out.1
  subst hcf1
  obtain ⟨m1, hm1⟩ : ∃ m, m = nth sz1 0 := ⟨_, rfl⟩
  obtain ⟨n1, hn1⟩ : ∃ n, n = nth sz1 1 := ⟨_, rfl⟩
  have HC1 : Hid (b1 < w.heap.size ∧ w.cell? ⟨b1, o1, none⟩ = some (.int .i64 m1) ∧ w.cell? ⟨b1, o1 + 1, none⟩ = some (.int .i64 n1)) := ⟨hq1, by have := hc1 0 (by rw [G1.out.2.1]; decide); rw [Nat.add_zero, ← hm1] at this; exact this, by rw [hn1]; exact hc1 1 (by rw [G1.out.2.1]; decide)⟩
  have HM1 : Hid (m1 = nth sz1 0 ∧ n1 = nth sz1 1) := ⟨hm1, hn1⟩
  have hz1 : sz1.length = 2 := G1.out.2.1
  have HZ1 : Hid (sz1.length = 2) := hz1
  have lz1 : 1 < sz1.length := by omega
  have ly1 : 0 < sz1.length := by omega
  have lw1 : (1 : Int) < (sz1.length : Int) := by omega
  have lv1 : (0 : Int) < (sz1.length : Int) := by omega
  clear hq1 hc1 hm1 hn1 hz1
  obtain ⟨m, n, DM, DN, SM, SN, U, V, R1, R2, R3, R4, R5, R6, TT, L1, L2, L3, L4⟩ := unit13 G1.out w8.2.2.2.2.2
  have HR1 : Hid (m1 = m ∧ m ≤ 4096 ∧ DM = iot m ∧ ∀ j, In64 (nth DM j)) := ⟨by rw [HM1.out.1]; exact R1.1, R1.2⟩
  have HR2 : Hid (n1 = n ∧ n ≤ 4096 ∧ DN = iot n ∧ ∀ j, In64 (nth DN j)) := ⟨by rw [HM1.out.2]; exact R2.1, R2.2⟩
  rw [← HM1.out.1] at R3
  rw [← HM1.out.2] at R4
  have HR3 : Hid (_) := R3
  have HR4 : Hid (_) := R4
  have HR5 : Hid (_) := R5
  have HR6 : Hid (_) := R6
  have HTT : Hid (_) := TT
  clear R1 R2 R3 R4 R5 R6 TT
  obtain ⟨x11, x12, x3, x4, s64, T⟩ := w8
  have HI1 : Hid (IsC w.heap.size w (some ⟨b1, o1, none⟩) sz1 sc1 ∧ IsC w.heap.size w da1 dz1 dc1 ∧ (∀ j, In64 (nth sz1 j)) ∧ ∀ j, In64 (nth dz1 j)) := ⟨x3, x4, s64, T⟩
  clear x3 x4 T s64
  have n1 := Abx.new w (.bool false) (.slice (some ⟨b1, o1, none⟩) sz1.length sc1) (.slice da1 dz1.length dc1)
  go_enter Try.func3, Try.ntmps3
  go_wp2_with fail
  obtain ⟨wo2, hwo2⟩ : ∃ wo2, wo2 = (w.alloc (.cells #[.bool false, .slice (some ⟨b1, o1, none⟩) sz1.length sc1, .slice da1 dz1.length dc1] 24)) := ⟨_, rfl⟩
  rw [← hwo2]
  have z3 : w.heap.size + 1 ≤ wo2.heap.size := by rw [hwo2]; simp only [World.size_alloc]; omega
  have B4 : Hid (Abx wo2 (w.heap.size) (.bool false) (.slice (some ⟨b1, o1, none⟩) sz1.length sc1) (.slice da1 dz1.length dc1)) := by rw [hwo2]; exact n1
  have hb5 : Hid (Below w.heap.size w wo2) := by rw [hwo2]; exact ((Below.refl w.heap.size w).alloc (by omega) (.cells #[.bool false, .slice (some ⟨b1, o1, none⟩) sz1.length sc1, .slice da1 dz1.length dc1] 24))
  have zwo2 : w.heap.size ≤ wo2.heap.size := hb5.out.size
  clear hwo2 n1
  refine (io13 2 2 rfl (by decide) [0, 1] 2 rfl rfl _).mono ?_
  rintro e v1 ⟨xa0, xc0, ya0, yc0, rfl, hX0, hY0, hB⟩
  have z6 : wo2.heap.size ≤ v1.heap.size := hB.size
  have B7 : Hid (Abx v1 (w.heap.size) (.bool false) (.slice (some ⟨b1, o1, none⟩) sz1.length sc1) (.slice da1 dz1.length dc1)) := B4.out.go hB
  have hb8 : Hid (Below w.heap.size w v1) := hb5.out.trans (hB.mono hb5.out.size)
  have L9 : Hid (MidC (wo2.heap.size) (v1.heap.size) v1 (xa0) ([2]) (xc0)) := hX0.midc
  have L10 : Hid (MidC (wo2.heap.size) (v1.heap.size) v1 (ya0) ([0, 1]) (yc0)) := hY0.midc
  clear hB hb5 B4 hX0 hY0
  have n11 := Abx.new v1 (.bool false) (.slice xa0 1 xc0) (.slice ya0 2 yc0)
  have l12 := (n11).c0
  have l13 := (n11).c1
  have l14 := (n11).c2
  go_wp2_with fail
  obtain ⟨wo15, hwo15⟩ : ∃ wo15, wo15 = (v1.alloc (.cells #[.bool false, .slice xa0 1 xc0, .slice ya0 2 yc0] 24)) := ⟨_, rfl⟩
  rw [← hwo15]
  have z16 : v1.heap.size + 1 ≤ wo15.heap.size := by rw [hwo15]; simp only [World.size_alloc]; omega
  have B17 : Hid (Abx wo15 (w.heap.size) (.bool false) (.slice (some ⟨b1, o1, none⟩) sz1.length sc1) (.slice da1 dz1.length dc1)) := by rw [hwo15]; exact (B7.out.al (.cells #[.bool false, .slice xa0 1 xc0, .slice ya0 2 yc0] 24))
  have B18 : Hid (Abx wo15 (v1.heap.size) (.bool false) (.slice xa0 1 xc0) (.slice ya0 2 yc0)) := by rw [hwo15]; exact n11
  have L19 : Hid (MidC (wo2.heap.size) (v1.heap.size) wo15 (xa0) ([2]) (xc0)) := by rw [hwo15]; exact (L9.out.al (by omega) (.cells #[.bool false, .slice xa0 1 xc0, .slice ya0 2 yc0] 24))
  have L20 : Hid (MidC (wo2.heap.size) (v1.heap.size) wo15 (ya0) ([0, 1]) (yc0)) := by rw [hwo15]; exact (L10.out.al (by omega) (.cells #[.bool false, .slice xa0 1 xc0, .slice ya0 2 yc0] 24))
  have hb21 : Hid (Below w.heap.size w wo15) := by rw [hwo15]; exact (hb8.out.alloc (by omega) (.cells #[.bool false, .slice xa0 1 xc0, .slice ya0 2 yc0] 24))
  have zwo15 : w.heap.size ≤ wo15.heap.size := hb21.out.size
  clear hwo15 n11 l12 l13 l14 hb8 B7 L9 L10
  refine (otw_ok 8 false xa0 xc0 [2] 1 rfl ya0 yc0 [0, 1] 2 rfl false xa0 xc0 [2] 1 rfl ya0 yc0 [0, 1] 2 rfl _ (by unfold In64; decide) (by decide) (by decide) (L19.out.is (by omega)).1 (L20.out.is (by omega)).1 (lit12 (by decide)) (by decide) (by decide) (L19.out.is (by omega)).1 (L20.out.is (by omega)).1 (lit12 (by decide)) [2, 2] [1, 0, 0, 1] HOt (by show otE 8 false [2] [0, 1] false [2] [0, 1] = 0 ∧ [(2 : Int)] ++ [2] = [2, 2] ∧ otD 8 false [2] [0, 1] false [2] [0, 1] = [1, 0, 0, 1]; decide +kernel)).mono ?_
  rintro e v2 ⟨f1, g1, f2, g2, rfl, hX0, hY0, hB⟩
  have z22 : wo15.heap.size ≤ v2.heap.size := hB.size
  have B23 : Hid (Abx v2 (w.heap.size) (.bool false) (.slice (some ⟨b1, o1, none⟩) sz1.length sc1) (.slice da1 dz1.length dc1)) := B17.out.go hB
  have B24 : Hid (Abx v2 (v1.heap.size) (.bool false) (.slice xa0 1 xc0) (.slice ya0 2 yc0)) := B18.out.go hB
  have L25 : Hid (MidC (wo2.heap.size) (v1.heap.size) v2 (xa0) ([2]) (xc0)) := L19.out.go (by omega) hB
  have L26 : Hid (MidC (wo2.heap.size) (v1.heap.size) v2 (ya0) ([0, 1]) (yc0)) := L20.out.go (by omega) hB
  have hb27 : Hid (Below w.heap.size w v2) := hb21.out.trans (hB.mono hb21.out.size)
  have L28 : Hid (MidC (wo15.heap.size) (v2.heap.size) v2 (f1) ([2, 2]) (g1)) := hX0.midc
  have L29 : Hid (MidC (wo15.heap.size) (v2.heap.size) v2 (f2) ([1, 0, 0, 1]) (g2)) := hY0.midc
  clear hB hb21 B17 B18 L19 L20 hX0 hY0
  clear L25 L26 B24
  have n30 := Abx.new v2 (.bool false) (.slice f1 2 g1) (.slice f2 4 g2)
  have l31 := (n30).c0
  have l32 := (n30).c1
  have l33 := (n30).c2
  have n34 := lit_mid (v2.alloc (.cells #[.bool false, .slice f1 2 g1, .slice f2 4 g2] 24)) 3 [1, 0, 0, 1] 4 rfl
  simp only [World.size_alloc, List.map_cons, List.map_nil] at n34
  go_wp2_with fail
  obtain ⟨wo35, hwo35⟩ : ∃ wo35, wo35 = ((v2.alloc (.cells #[.bool false, .slice f1 2 g1, .slice f2 4 g2] 24)).alloc (.cells #[.int .i64 1, .int .i64 0, .int .i64 0, .int .i64 1] 3)) := ⟨_, rfl⟩
  rw [← hwo35]
  have z36 : v2.heap.size + 1 + 1 ≤ wo35.heap.size := by rw [hwo35]; simp only [World.size_alloc]; omega
  have B37 : Hid (Abx wo35 (w.heap.size) (.bool false) (.slice (some ⟨b1, o1, none⟩) sz1.length sc1) (.slice da1 dz1.length dc1)) := by rw [hwo35]; exact ((B23.out.al (.cells #[.bool false, .slice f1 2 g1, .slice f2 4 g2] 24)).al (.cells #[.int .i64 1, .int .i64 0, .int .i64 0, .int .i64 1] 3))
  have B38 : Hid (Abx wo35 (v2.heap.size) (.bool false) (.slice f1 2 g1) (.slice f2 4 g2)) := by rw [hwo35]; exact (n30.al (.cells #[.int .i64 1, .int .i64 0, .int .i64 0, .int .i64 1] 3))
  have L39 : Hid (MidC (wo15.heap.size) (v2.heap.size) wo35 (f1) ([2, 2]) (g1)) := by rw [hwo35]; exact ((L28.out.al (by omega) (.cells #[.bool false, .slice f1 2 g1, .slice f2 4 g2] 24)).al (by simp only [World.size_alloc]; omega) (.cells #[.int .i64 1, .int .i64 0, .int .i64 0, .int .i64 1] 3))
  have L40 : Hid (MidC (wo15.heap.size) (v2.heap.size) wo35 (f2) ([1, 0, 0, 1]) (g2)) := by rw [hwo35]; exact ((L29.out.al (by omega) (.cells #[.bool false, .slice f1 2 g1, .slice f2 4 g2] 24)).al (by simp only [World.size_alloc]; omega) (.cells #[.int .i64 1, .int .i64 0, .int .i64 0, .int .i64 1] 3))
  have L41 : Hid (MidC (v2.heap.size + 1) (v2.heap.size + 1 + 1) wo35 (some ⟨v2.heap.size + 1, 0, none⟩) ([1, 0, 0, 1]) (4)) := by rw [hwo35]; exact n34
  have hb42 : Hid (Below w.heap.size w wo35) := by rw [hwo35]; exact ((hb27.out.alloc (by omega) (.cells #[.bool false, .slice f1 2 g1, .slice f2 4 g2] 24)).alloc (by simp only [World.size_alloc]; omega) (.cells #[.int .i64 1, .int .i64 0, .int .i64 0, .int .i64 1] 3))
  have zwo35 : w.heap.size ≤ wo35.heap.size := hb42.out.size
  clear hwo35 n30 l31 l32 l33 n34 hb27 B23 L28 L29
  refine (ints_any f2 g2 [1, 0, 0, 1] (some ⟨v2.heap.size + 1, 0, none⟩) 4 [1, 0, 0, 1] (by simp) _ _ (L40.out.is (by omega)).1 (L41.out.is (by omega)).1).mono ?_
  rintro e v3 ⟨rfl, hB⟩
  have z43 : wo35.heap.size ≤ v3.heap.size := hB.size
  have B44 : Hid (Abx v3 (w.heap.size) (.bool false) (.slice (some ⟨b1, o1, none⟩) sz1.length sc1) (.slice da1 dz1.length dc1)) := B37.out.go hB
  have B45 : Hid (Abx v3 (v2.heap.size) (.bool false) (.slice f1 2 g1) (.slice f2 4 g2)) := B38.out.go hB
  have L46 : Hid (MidC (wo15.heap.size) (v2.heap.size) v3 (f1) ([2, 2]) (g1)) := L39.out.go (by omega) hB
  have L47 : Hid (MidC (wo15.heap.size) (v2.heap.size) v3 (f2) ([1, 0, 0, 1]) (g2)) := L40.out.go (by omega) hB
  have L48 : Hid (MidC (v2.heap.size + 1) (v2.heap.size + 1 + 1) v3 (some ⟨v2.heap.size + 1, 0, none⟩) ([1, 0, 0, 1]) (4)) := L41.out.go (by omega) hB
  have hb49 : Hid (Below w.heap.size w v3) := hb42.out.trans (hB.mono hb42.out.size)
  clear hB hb42 B37 B38 L39 L40 L41
  rw [eqB_true rfl]
  clear L46 L47 L48 B45
  have l50 := (B44.out).c0
  have l51 := (B44.out).c1
  have l52 := (B44.out).c2
  go_wp2_with fail
  clear l50 l51 l52
  refine (grid_yes 16 (by decide) false (some ⟨b1, o1, none⟩) sc1 sz1 da1 dc1 dz1 _ ((HI1.out.1.1.below hb49.out).mono hb49.out.size) G1.out).mono ?_
  rintro e v4 ⟨rfl, hB⟩
  have z53 : v3.heap.size ≤ v4.heap.size := hB.size
  have B54 : Hid (Abx v4 (w.heap.size) (.bool false) (.slice (some ⟨b1, o1, none⟩) sz1.length sc1) (.slice da1 dz1.length dc1)) := B44.out.go hB
  have hb55 : Hid (Below w.heap.size w v4) := hb49.out.trans (hB.mono hb49.out.size)
  clear hB hb49 B44
  have HCm : Hid (∀ v, Below w.heap.size w v → v.cell? ⟨b1, o1, none⟩ = some (.int .i64 m1)) := fun v h => (h.cell (p := ⟨b1, o1, none⟩) HC1.out.1).trans HC1.out.2.1
  have HCn : Hid (∀ v, Below w.heap.size w v → v.cell? ⟨b1, o1 + 1, none⟩ = some (.int .i64 n1)) := fun v h => (h.cell (p := ⟨b1, o1 + 1, none⟩) HC1.out.1).trans HC1.out.2.2
  have l56 := (B54.out).c0
  have l57 := (B54.out).c1
  have l58 := (B54.out).c2
  have l59 := HCm.out _ hb55.out
  go_wp2_with fail
  clear l56 l57 l58 l59
  refine (io13 m m1 HR1.out.1 HR1.out.2.1 DM DM.length HR1.out.2.2.1 rfl _).mono ?_
  rintro e v5 ⟨xa2, xc2, ya2, yc2, rfl, hX2, hY2, hB⟩
  have z60 : v4.heap.size ≤ v5.heap.size := hB.size
  have B61 : Hid (Abx v5 (w.heap.size) (.bool false) (.slice (some ⟨b1, o1, none⟩) sz1.length sc1) (.slice da1 dz1.length dc1)) := B54.out.go hB
  have hb62 : Hid (Below w.heap.size w v5) := hb55.out.trans (hB.mono hb55.out.size)
  have L63 : Hid (MidC (v4.heap.size) (v5.heap.size) v5 (xa2) ([m1]) (xc2)) := hX2.midc
  have L64 : Hid (MidC (v4.heap.size) (v5.heap.size) v5 (ya2) (DM) (yc2)) := hY2.midc
  clear hB hb55 B54 hX2 hY2
  have n65 := Abx.new v5 (.bool false) (.slice xa2 1 xc2) (.slice ya2 DM.length yc2)
  have l66 := (n65).c0
  have l67 := (n65).c1
  have l68 := (n65).c2
  go_wp2_with fail
  obtain ⟨wo69, hwo69⟩ : ∃ wo69, wo69 = (v5.alloc (.cells #[.bool false, .slice xa2 1 xc2, .slice ya2 DM.length yc2] 24)) := ⟨_, rfl⟩
  rw [← hwo69]
  have z70 : v5.heap.size + 1 ≤ wo69.heap.size := by rw [hwo69]; simp only [World.size_alloc]; omega
  have B71 : Hid (Abx wo69 (w.heap.size) (.bool false) (.slice (some ⟨b1, o1, none⟩) sz1.length sc1) (.slice da1 dz1.length dc1)) := by rw [hwo69]; exact (B61.out.al (.cells #[.bool false, .slice xa2 1 xc2, .slice ya2 DM.length yc2] 24))
  have B72 : Hid (Abx wo69 (v5.heap.size) (.bool false) (.slice xa2 1 xc2) (.slice ya2 DM.length yc2)) := by rw [hwo69]; exact n65
  have L73 : Hid (MidC (v4.heap.size) (v5.heap.size) wo69 (xa2) ([m1]) (xc2)) := by rw [hwo69]; exact (L63.out.al (by omega) (.cells #[.bool false, .slice xa2 1 xc2, .slice ya2 DM.length yc2] 24))
  have L74 : Hid (MidC (v4.heap.size) (v5.heap.size) wo69 (ya2) (DM) (yc2)) := by rw [hwo69]; exact (L64.out.al (by omega) (.cells #[.bool false, .slice xa2 1 xc2, .slice ya2 DM.length yc2] 24))
  have hb75 : Hid (Below w.heap.size w wo69) := by rw [hwo69]; exact (hb62.out.alloc (by omega) (.cells #[.bool false, .slice xa2 1 xc2, .slice ya2 DM.length yc2] 24))
  have zwo69 : w.heap.size ≤ wo69.heap.size := hb75.out.size
  clear hwo69 n65 l66 l67 l68 hb62 B61 L63 L64
  refine (otw_ok 8 false xa2 xc2 [m1] 1 rfl ya2 yc2 DM DM.length rfl false xa2 xc2 [m1] 1 rfl ya2 yc2 DM DM.length rfl _ (by unfold In64; decide) (by decide) (by omega) (L73.out.is (by omega)).1 (L74.out.is (by omega)).1 HR1.out.2.2.2 (by decide) (by omega) (L73.out.is (by omega)).1 (L74.out.is (by omega)).1 HR1.out.2.2.2 SM U HOt HR3.out).mono ?_
  rintro e v6 ⟨xa21, xc21, ya21, yc21, rfl, hX21, hY21, hB⟩
  have z76 : wo69.heap.size ≤ v6.heap.size := hB.size
  have B77 : Hid (Abx v6 (w.heap.size) (.bool false) (.slice (some ⟨b1, o1, none⟩) sz1.length sc1) (.slice da1 dz1.length dc1)) := B71.out.go hB
  have B78 : Hid (Abx v6 (v5.heap.size) (.bool false) (.slice xa2 1 xc2) (.slice ya2 DM.length yc2)) := B72.out.go hB
  have L79 : Hid (MidC (v4.heap.size) (v5.heap.size) v6 (xa2) ([m1]) (xc2)) := L73.out.go (by omega) hB
  have L80 : Hid (MidC (v4.heap.size) (v5.heap.size) v6 (ya2) (DM) (yc2)) := L74.out.go (by omega) hB
  have hb81 : Hid (Below w.heap.size w v6) := hb75.out.trans (hB.mono hb75.out.size)
  have L82 : Hid (MidC (wo69.heap.size) (v6.heap.size) v6 (xa21) (SM) (xc21)) := hX21.midc
  have L83 : Hid (MidC (wo69.heap.size) (v6.heap.size) v6 (ya21) (U) (yc21)) := hY21.midc
  clear hB hb75 B71 B72 L73 L74 hX21 hY21
  clear L79 L80
  have l84 := (B78.out).fr 0
  have l85 := (B78.out).c0
  have l86 := (B78.out).fr 1
  have l87 := (B78.out).c1
  have l88 := (B78.out).fr 2
  have l89 := (B78.out).c2
  have l90 := ((abx_o3 B77.out (B := v5.heap.size) (by omega) (.bool false) (.slice xa21 SM.length xc21) (.slice ya21 U.length yc21))).c0
  have l91 := ((abx_o3 B77.out (B := v5.heap.size) (by omega) (.bool false) (.slice xa21 SM.length xc21) (.slice ya21 U.length yc21))).c1
  have l92 := ((abx_o3 B77.out (B := v5.heap.size) (by omega) (.bool false) (.slice xa21 SM.length xc21) (.slice ya21 U.length yc21))).c2
  have l93 := HCn.out _ (bel_s3 hb81.out (B := v5.heap.size) (by omega) (.bool false) (.slice xa21 SM.length xc21) (.slice ya21 U.length yc21))
  go_wp2_with fail
  obtain ⟨wo94, hwo94⟩ : ∃ wo94, wo94 = (((v6.setCell ⟨v5.heap.size, 0, none⟩ (.bool false)).setCell ⟨v5.heap.size, 1, none⟩ (.slice xa21 SM.length xc21)).setCell ⟨v5.heap.size, 2, none⟩ (.slice ya21 U.length yc21)) := ⟨_, rfl⟩
  rw [← hwo94]
  have z95 : v6.heap.size ≤ wo94.heap.size := by rw [hwo94]; simp only [World.size_setCell]; omega
  have B96 : Hid (Abx wo94 (w.heap.size) (.bool false) (.slice (some ⟨b1, o1, none⟩) sz1.length sc1) (.slice da1 dz1.length dc1)) := by rw [hwo94]; exact (abx_o3 B77.out (B := v5.heap.size) (by omega) (.bool false) (.slice xa21 SM.length xc21) (.slice ya21 U.length yc21))
  have B97 : Hid (Abx wo94 (v5.heap.size) (.bool false) (.slice xa21 SM.length xc21) (.slice ya21 U.length yc21)) := by rw [hwo94]; exact (B78.out.set3 (.bool false) (.slice xa21 SM.length xc21) (.slice ya21 U.length yc21))
  have L98 : Hid (MidC (wo69.heap.size) (v6.heap.size) wo94 (xa21) (SM) (xc21)) := by rw [hwo94]; exact (L82.out.s3 (b := v5.heap.size) (by omega) (.bool false) (.slice xa21 SM.length xc21) (.slice ya21 U.length yc21))
  have L99 : Hid (MidC (wo69.heap.size) (v6.heap.size) wo94 (ya21) (U) (yc21)) := by rw [hwo94]; exact (L83.out.s3 (b := v5.heap.size) (by omega) (.bool false) (.slice xa21 SM.length xc21) (.slice ya21 U.length yc21))
  have hb100 : Hid (Below w.heap.size w wo94) := by rw [hwo94]; exact (bel_s3 hb81.out (B := v5.heap.size) (by omega) (.bool false) (.slice xa21 SM.length xc21) (.slice ya21 U.length yc21))
  have zwo94 : w.heap.size ≤ wo94.heap.size := hb100.out.size
  clear hwo94 l84 l85 l86 l87 l88 l89 l90 l91 l92 l93 hb81 B77 B78 L82 L83
  refine (io13 n n1 HR2.out.1 HR2.out.2.1 DN DN.length HR2.out.2.2.1 rfl _).mono ?_
  rintro e v7 ⟨xa3, xc3, ya3, yc3, rfl, hX3, hY3, hB⟩
  have z101 : wo94.heap.size ≤ v7.heap.size := hB.size
  have B102 : Hid (Abx v7 (w.heap.size) (.bool false) (.slice (some ⟨b1, o1, none⟩) sz1.length sc1) (.slice da1 dz1.length dc1)) := B96.out.go hB
  have B103 : Hid (Abx v7 (v5.heap.size) (.bool false) (.slice xa21 SM.length xc21) (.slice ya21 U.length yc21)) := B97.out.go hB
  have L104 : Hid (MidC (wo69.heap.size) (v6.heap.size) v7 (xa21) (SM) (xc21)) := L98.out.go (by omega) hB
  have L105 : Hid (MidC (wo69.heap.size) (v6.heap.size) v7 (ya21) (U) (yc21)) := L99.out.go (by omega) hB
  have hb106 : Hid (Below w.heap.size w v7) := hb100.out.trans (hB.mono hb100.out.size)
  have L107 : Hid (MidC (wo94.heap.size) (v7.heap.size) v7 (xa3) ([n1]) (xc3)) := hX3.midc
  have L108 : Hid (MidC (wo94.heap.size) (v7.heap.size) v7 (ya3) (DN) (yc3)) := hY3.midc
  clear hB hb100 B96 B97 L98 L99 hX3 hY3
  have n109 := Abx.new v7 (.bool false) (.slice xa3 1 xc3) (.slice ya3 DN.length yc3)
  have l110 := (n109).c0
  have l111 := (n109).c1
  have l112 := (n109).c2
  go_wp2_with fail
  obtain ⟨wo113, hwo113⟩ : ∃ wo113, wo113 = (v7.alloc (.cells #[.bool false, .slice xa3 1 xc3, .slice ya3 DN.length yc3] 24)) := ⟨_, rfl⟩
  rw [← hwo113]
  have z114 : v7.heap.size + 1 ≤ wo113.heap.size := by rw [hwo113]; simp only [World.size_alloc]; omega
  have B115 : Hid (Abx wo113 (w.heap.size) (.bool false) (.slice (some ⟨b1, o1, none⟩) sz1.length sc1) (.slice da1 dz1.length dc1)) := by rw [hwo113]; exact (B102.out.al (.cells #[.bool false, .slice xa3 1 xc3, .slice ya3 DN.length yc3] 24))
  have B116 : Hid (Abx wo113 (v5.heap.size) (.bool false) (.slice xa21 SM.length xc21) (.slice ya21 U.length yc21)) := by rw [hwo113]; exact (B103.out.al (.cells #[.bool false, .slice xa3 1 xc3, .slice ya3 DN.length yc3] 24))
  have B117 : Hid (Abx wo113 (v7.heap.size) (.bool false) (.slice xa3 1 xc3) (.slice ya3 DN.length yc3)) := by rw [hwo113]; exact n109
  have L118 : Hid (MidC (wo69.heap.size) (v6.heap.size) wo113 (xa21) (SM) (xc21)) := by rw [hwo113]; exact (L104.out.al (by omega) (.cells #[.bool false, .slice xa3 1 xc3, .slice ya3 DN.length yc3] 24))
  have L119 : Hid (MidC (wo69.heap.size) (v6.heap.size) wo113 (ya21) (U) (yc21)) := by rw [hwo113]; exact (L105.out.al (by omega) (.cells #[.bool false, .slice xa3 1 xc3, .slice ya3 DN.length yc3] 24))
  have L120 : Hid (MidC (wo94.heap.size) (v7.heap.size) wo113 (xa3) ([n1]) (xc3)) := by rw [hwo113]; exact (L107.out.al (by omega) (.cells #[.bool false, .slice xa3 1 xc3, .slice ya3 DN.length yc3] 24))
  have L121 : Hid (MidC (wo94.heap.size) (v7.heap.size) wo113 (ya3) (DN) (yc3)) := by rw [hwo113]; exact (L108.out.al (by omega) (.cells #[.bool false, .slice xa3 1 xc3, .slice ya3 DN.length yc3] 24))
  have hb122 : Hid (Below w.heap.size w wo113) := by rw [hwo113]; exact (hb106.out.alloc (by omega) (.cells #[.bool false, .slice xa3 1 xc3, .slice ya3 DN.length yc3] 24))
  have zwo113 : w.heap.size ≤ wo113.heap.size := hb122.out.size
  clear hwo113 n109 l110 l111 l112 hb106 B102 B103 L104 L105 L107 L108
  refine (otw_ok 8 false xa3 xc3 [n1] 1 rfl ya3 yc3 DN DN.length rfl false xa3 xc3 [n1] 1 rfl ya3 yc3 DN DN.length rfl _ (by unfold In64; decide) (by decide) (by omega) (L120.out.is (by omega)).1 (L121.out.is (by omega)).1 HR2.out.2.2.2 (by decide) (by omega) (L120.out.is (by omega)).1 (L121.out.is (by omega)).1 HR2.out.2.2.2 SN V HOt HR4.out).mono ?_
  rintro e v8 ⟨xa31, xc31, ya31, yc31, rfl, hX31, hY31, hB⟩
  have z123 : wo113.heap.size ≤ v8.heap.size := hB.size
  have B124 : Hid (Abx v8 (w.heap.size) (.bool false) (.slice (some ⟨b1, o1, none⟩) sz1.length sc1) (.slice da1 dz1.length dc1)) := B115.out.go hB
  have B125 : Hid (Abx v8 (v5.heap.size) (.bool false) (.slice xa21 SM.length xc21) (.slice ya21 U.length yc21)) := B116.out.go hB
  have B126 : Hid (Abx v8 (v7.heap.size) (.bool false) (.slice xa3 1 xc3) (.slice ya3 DN.length yc3)) := B117.out.go hB
  have L127 : Hid (MidC (wo69.heap.size) (v6.heap.size) v8 (xa21) (SM) (xc21)) := L118.out.go (by omega) hB
  have L128 : Hid (MidC (wo69.heap.size) (v6.heap.size) v8 (ya21) (U) (yc21)) := L119.out.go (by omega) hB
  have L129 : Hid (MidC (wo94.heap.size) (v7.heap.size) v8 (xa3) ([n1]) (xc3)) := L120.out.go (by omega) hB
  have L130 : Hid (MidC (wo94.heap.size) (v7.heap.size) v8 (ya3) (DN) (yc3)) := L121.out.go (by omega) hB
  have hb131 : Hid (Below w.heap.size w v8) := hb122.out.trans (hB.mono hb122.out.size)
  have L132 : Hid (MidC (wo113.heap.size) (v8.heap.size) v8 (xa31) (SN) (xc31)) := hX31.midc
  have L133 : Hid (MidC (wo113.heap.size) (v8.heap.size) v8 (ya31) (V) (yc31)) := hY31.midc
  clear hB hb122 B115 B116 B117 L118 L119 L120 L121 hX31 hY31
  clear L129 L130
  have l134 := (B126.out).fr 0
  have l135 := (B126.out).c0
  have l136 := (B126.out).fr 1
  have l137 := (B126.out).c1
  have l138 := (B126.out).fr 2
  have l139 := (B126.out).c2
  have l140 := ((abx_o3 B125.out (B := v7.heap.size) (by omega) (.bool false) (.slice xa31 SN.length xc31) (.slice ya31 V.length yc31))).c0
  have l141 := ((abx_o3 B125.out (B := v7.heap.size) (by omega) (.bool false) (.slice xa31 SN.length xc31) (.slice ya31 V.length yc31))).c1
  have l142 := ((abx_o3 B125.out (B := v7.heap.size) (by omega) (.bool false) (.slice xa31 SN.length xc31) (.slice ya31 V.length yc31))).c2
  have l143 := ((abx_o3 B124.out (B := v7.heap.size) (by omega) (.bool false) (.slice xa31 SN.length xc31) (.slice ya31 V.length yc31))).c0
  have l144 := ((abx_o3 B124.out (B := v7.heap.size) (by omega) (.bool false) (.slice xa31 SN.length xc31) (.slice ya31 V.length yc31))).c1
  have l145 := ((abx_o3 B124.out (B := v7.heap.size) (by omega) (.bool false) (.slice xa31 SN.length xc31) (.slice ya31 V.length yc31))).c2
  go_wp2_with fail
  obtain ⟨wo146, hwo146⟩ : ∃ wo146, wo146 = (((v8.setCell ⟨v7.heap.size, 0, none⟩ (.bool false)).setCell ⟨v7.heap.size, 1, none⟩ (.slice xa31 SN.length xc31)).setCell ⟨v7.heap.size, 2, none⟩ (.slice ya31 V.length yc31)) := ⟨_, rfl⟩
  rw [← hwo146]
  have z147 : v8.heap.size ≤ wo146.heap.size := by rw [hwo146]; simp only [World.size_setCell]; omega
  have B148 : Hid (Abx wo146 (w.heap.size) (.bool false) (.slice (some ⟨b1, o1, none⟩) sz1.length sc1) (.slice da1 dz1.length dc1)) := by rw [hwo146]; exact (abx_o3 B124.out (B := v7.heap.size) (by omega) (.bool false) (.slice xa31 SN.length xc31) (.slice ya31 V.length yc31))
  have B149 : Hid (Abx wo146 (v5.heap.size) (.bool false) (.slice xa21 SM.length xc21) (.slice ya21 U.length yc21)) := by rw [hwo146]; exact (abx_o3 B125.out (B := v7.heap.size) (by omega) (.bool false) (.slice xa31 SN.length xc31) (.slice ya31 V.length yc31))
  have B150 : Hid (Abx wo146 (v7.heap.size) (.bool false) (.slice xa31 SN.length xc31) (.slice ya31 V.length yc31)) := by rw [hwo146]; exact (B126.out.set3 (.bool false) (.slice xa31 SN.length xc31) (.slice ya31 V.length yc31))
  have L151 : Hid (MidC (wo69.heap.size) (v6.heap.size) wo146 (xa21) (SM) (xc21)) := by rw [hwo146]; exact (L127.out.s3 (b := v7.heap.size) (by omega) (.bool false) (.slice xa31 SN.length xc31) (.slice ya31 V.length yc31))
  have L152 : Hid (MidC (wo69.heap.size) (v6.heap.size) wo146 (ya21) (U) (yc21)) := by rw [hwo146]; exact (L128.out.s3 (b := v7.heap.size) (by omega) (.bool false) (.slice xa31 SN.length xc31) (.slice ya31 V.length yc31))
  have L153 : Hid (MidC (wo113.heap.size) (v8.heap.size) wo146 (xa31) (SN) (xc31)) := by rw [hwo146]; exact (L132.out.s3 (b := v7.heap.size) (by omega) (.bool false) (.slice xa31 SN.length xc31) (.slice ya31 V.length yc31))
  have L154 : Hid (MidC (wo113.heap.size) (v8.heap.size) wo146 (ya31) (V) (yc31)) := by rw [hwo146]; exact (L133.out.s3 (b := v7.heap.size) (by omega) (.bool false) (.slice xa31 SN.length xc31) (.slice ya31 V.length yc31))
  have hb155 : Hid (Below w.heap.size w wo146) := by rw [hwo146]; exact (bel_s3 hb131.out (B := v7.heap.size) (by omega) (.bool false) (.slice xa31 SN.length xc31) (.slice ya31 V.length yc31))
  have zwo146 : w.heap.size ≤ wo146.heap.size := hb155.out.size
  clear hwo146 l134 l135 l136 l137 l138 l139 l140 l141 l142 l143 l144 l145 hb131 B124 B125 B126 L127 L128 L132 L133
  refine (niw_ok 1 3 false xa21 xc21 SM SM.length rfl ya21 yc21 U U.length rfl false (some ⟨b1, o1, none⟩) sc1 sz1 sz1.length rfl da1 dc1 dz1 dz1.length rfl _ (by unfold In64; decide) (by unfold In64; decide) (by omega) (by omega) (L151.out.is (by omega)) (L152.out.is (by omega)).1 HTT.out.1 x11 x12 ((HI1.out.1.below hb155.out).mono hb155.out.size) ((HI1.out.2.1.1.below hb155.out).mono hb155.out.size) HI1.out.2.2.2 sz1 dz1 HNi HR5.out).mono ?_
  rintro e v9 ⟨xa5, xc5, ya5, yc5, rfl, hX5, hY5, hB⟩
  have z156 : wo146.heap.size ≤ v9.heap.size := hB.size
  have B157 : Hid (Abx v9 (w.heap.size) (.bool false) (.slice (some ⟨b1, o1, none⟩) sz1.length sc1) (.slice da1 dz1.length dc1)) := B148.out.go hB
  have B158 : Hid (Abx v9 (v5.heap.size) (.bool false) (.slice xa21 SM.length xc21) (.slice ya21 U.length yc21)) := B149.out.go hB
  have B159 : Hid (Abx v9 (v7.heap.size) (.bool false) (.slice xa31 SN.length xc31) (.slice ya31 V.length yc31)) := B150.out.go hB
  have L160 : Hid (MidC (wo69.heap.size) (v6.heap.size) v9 (xa21) (SM) (xc21)) := L151.out.go (by omega) hB
  have L161 : Hid (MidC (wo69.heap.size) (v6.heap.size) v9 (ya21) (U) (yc21)) := L152.out.go (by omega) hB
  have L162 : Hid (MidC (wo113.heap.size) (v8.heap.size) v9 (xa31) (SN) (xc31)) := L153.out.go (by omega) hB
  have L163 : Hid (MidC (wo113.heap.size) (v8.heap.size) v9 (ya31) (V) (yc31)) := L154.out.go (by omega) hB
  have hb164 : Hid (Below w.heap.size w v9) := hb155.out.trans (hB.mono hb155.out.size)
  have L165 : Hid (MidC (wo146.heap.size) (v9.heap.size) v9 (xa5) (sz1) (xc5)) := hX5.midc
  have L166 : Hid (MidC (wo146.heap.size) (v9.heap.size) v9 (ya5) (dz1) (yc5)) := hY5.midc
  clear hB hb155 B148 B149 B150 L151 L152 L153 L154 hX5 hY5
  have n167 := Abx.new v9 (.bool false) (.slice xa5 sz1.length xc5) (.slice ya5 dz1.length yc5)
  have l168 := ((B157.out.al (.cells #[.bool false, .slice xa5 sz1.length xc5, .slice ya5 dz1.length yc5] 24))).c0
  have l169 := ((B157.out.al (.cells #[.bool false, .slice xa5 sz1.length xc5, .slice ya5 dz1.length yc5] 24))).c1
  have l170 := ((B157.out.al (.cells #[.bool false, .slice xa5 sz1.length xc5, .slice ya5 dz1.length yc5] 24))).c2
  have l171 := ((B159.out.al (.cells #[.bool false, .slice xa5 sz1.length xc5, .slice ya5 dz1.length yc5] 24))).c0
  have l172 := ((B159.out.al (.cells #[.bool false, .slice xa5 sz1.length xc5, .slice ya5 dz1.length yc5] 24))).c1
  have l173 := ((B159.out.al (.cells #[.bool false, .slice xa5 sz1.length xc5, .slice ya5 dz1.length yc5] 24))).c2
  go_wp2_with fail
  obtain ⟨wo174, hwo174⟩ : ∃ wo174, wo174 = (v9.alloc (.cells #[.bool false, .slice xa5 sz1.length xc5, .slice ya5 dz1.length yc5] 24)) := ⟨_, rfl⟩
  rw [← hwo174]
  have z175 : v9.heap.size + 1 ≤ wo174.heap.size := by rw [hwo174]; simp only [World.size_alloc]; omega
  have B176 : Hid (Abx wo174 (w.heap.size) (.bool false) (.slice (some ⟨b1, o1, none⟩) sz1.length sc1) (.slice da1 dz1.length dc1)) := by rw [hwo174]; exact (B157.out.al (.cells #[.bool false, .slice xa5 sz1.length xc5, .slice ya5 dz1.length yc5] 24))
  have B177 : Hid (Abx wo174 (v5.heap.size) (.bool false) (.slice xa21 SM.length xc21) (.slice ya21 U.length yc21)) := by rw [hwo174]; exact (B158.out.al (.cells #[.bool false, .slice xa5 sz1.length xc5, .slice ya5 dz1.length yc5] 24))
  have B178 : Hid (Abx wo174 (v7.heap.size) (.bool false) (.slice xa31 SN.length xc31) (.slice ya31 V.length yc31)) := by rw [hwo174]; exact (B159.out.al (.cells #[.bool false, .slice xa5 sz1.length xc5, .slice ya5 dz1.length yc5] 24))
  have B179 : Hid (Abx wo174 (v9.heap.size) (.bool false) (.slice xa5 sz1.length xc5) (.slice ya5 dz1.length yc5)) := by rw [hwo174]; exact n167
  have L180 : Hid (MidC (wo69.heap.size) (v6.heap.size) wo174 (xa21) (SM) (xc21)) := by rw [hwo174]; exact (L160.out.al (by omega) (.cells #[.bool false, .slice xa5 sz1.length xc5, .slice ya5 dz1.length yc5] 24))
  have L181 : Hid (MidC (wo69.heap.size) (v6.heap.size) wo174 (ya21) (U) (yc21)) := by rw [hwo174]; exact (L161.out.al (by omega) (.cells #[.bool false, .slice xa5 sz1.length xc5, .slice ya5 dz1.length yc5] 24))
  have L182 : Hid (MidC (wo113.heap.size) (v8.heap.size) wo174 (xa31) (SN) (xc31)) := by rw [hwo174]; exact (L162.out.al (by omega) (.cells #[.bool false, .slice xa5 sz1.length xc5, .slice ya5 dz1.length yc5] 24))
  have L183 : Hid (MidC (wo113.heap.size) (v8.heap.size) wo174 (ya31) (V) (yc31)) := by rw [hwo174]; exact (L163.out.al (by omega) (.cells #[.bool false, .slice xa5 sz1.length xc5, .slice ya5 dz1.length yc5] 24))
  have L184 : Hid (MidC (wo146.heap.size) (v9.heap.size) wo174 (xa5) (sz1) (xc5)) := by rw [hwo174]; exact (L165.out.al (by omega) (.cells #[.bool false, .slice xa5 sz1.length xc5, .slice ya5 dz1.length yc5] 24))
  have L185 : Hid (MidC (wo146.heap.size) (v9.heap.size) wo174 (ya5) (dz1) (yc5)) := by rw [hwo174]; exact (L166.out.al (by omega) (.cells #[.bool false, .slice xa5 sz1.length xc5, .slice ya5 dz1.length yc5] 24))
  have hb186 : Hid (Below w.heap.size w wo174) := by rw [hwo174]; exact (hb164.out.alloc (by omega) (.cells #[.bool false, .slice xa5 sz1.length xc5, .slice ya5 dz1.length yc5] 24))
  have zwo174 : w.heap.size ≤ wo174.heap.size := hb186.out.size
  clear hwo174 n167 l168 l169 l170 l171 l172 l173 hb164 B157 B158 B159 L160 L161 L162 L163 L165 L166
  refine (niw_ok 1 3 false (some ⟨b1, o1, none⟩) sc1 sz1 sz1.length rfl da1 dc1 dz1 dz1.length rfl false xa31 xc31 SN SN.length rfl ya31 yc31 V V.length rfl _ (by unfold In64; decide) (by unfold In64; decide) x11 x12 ((HI1.out.1.below hb186.out).mono hb186.out.size) ((HI1.out.2.1.1.below hb186.out).mono hb186.out.size) HI1.out.2.2.2 (by omega) (by omega) (L182.out.is (by omega)) (L183.out.is (by omega)).1 HTT.out.2 sz1 dz1 HNi HR6.out).mono ?_
  rintro e v10 ⟨xa6, xc6, ya6, yc6, rfl, hX6, hY6, hB⟩
  have z187 : wo174.heap.size ≤ v10.heap.size := hB.size
  have B188 : Hid (Abx v10 (w.heap.size) (.bool false) (.slice (some ⟨b1, o1, none⟩) sz1.length sc1) (.slice da1 dz1.length dc1)) := B176.out.go hB
  have B189 : Hid (Abx v10 (v5.heap.size) (.bool false) (.slice xa21 SM.length xc21) (.slice ya21 U.length yc21)) := B177.out.go hB
  have B190 : Hid (Abx v10 (v7.heap.size) (.bool false) (.slice xa31 SN.length xc31) (.slice ya31 V.length yc31)) := B178.out.go hB
  have B191 : Hid (Abx v10 (v9.heap.size) (.bool false) (.slice xa5 sz1.length xc5) (.slice ya5 dz1.length yc5)) := B179.out.go hB
  have L192 : Hid (MidC (wo69.heap.size) (v6.heap.size) v10 (xa21) (SM) (xc21)) := L180.out.go (by omega) hB
  have L193 : Hid (MidC (wo69.heap.size) (v6.heap.size) v10 (ya21) (U) (yc21)) := L181.out.go (by omega) hB
  have L194 : Hid (MidC (wo113.heap.size) (v8.heap.size) v10 (xa31) (SN) (xc31)) := L182.out.go (by omega) hB
  have L195 : Hid (MidC (wo113.heap.size) (v8.heap.size) v10 (ya31) (V) (yc31)) := L183.out.go (by omega) hB
  have L196 : Hid (MidC (wo146.heap.size) (v9.heap.size) v10 (xa5) (sz1) (xc5)) := L184.out.go (by omega) hB
  have L197 : Hid (MidC (wo146.heap.size) (v9.heap.size) v10 (ya5) (dz1) (yc5)) := L185.out.go (by omega) hB
  have hb198 : Hid (Below w.heap.size w v10) := hb186.out.trans (hB.mono hb186.out.size)
  have L199 : Hid (MidC (wo174.heap.size) (v10.heap.size) v10 (xa6) (sz1) (xc6)) := hX6.midc
  have L200 : Hid (MidC (wo174.heap.size) (v10.heap.size) v10 (ya6) (dz1) (yc6)) := hY6.midc
  clear hB hb186 B176 B177 B178 B179 L180 L181 L182 L183 L184 L185 hX6 hY6
  clear L192 L193 L194 L195
  have n201 := Abx.new v10 (.bool false) (.slice xa6 sz1.length xc6) (.slice ya6 dz1.length yc6)
  have l202 := ((B191.out.al (.cells #[.bool false, .slice xa6 sz1.length xc6, .slice ya6 dz1.length yc6] 24))).c0
  have l203 := ((B191.out.al (.cells #[.bool false, .slice xa6 sz1.length xc6, .slice ya6 dz1.length yc6] 24))).c1
  have l204 := ((B191.out.al (.cells #[.bool false, .slice xa6 sz1.length xc6, .slice ya6 dz1.length yc6] 24))).c2
  have l205 := ((B188.out.al (.cells #[.bool false, .slice xa6 sz1.length xc6, .slice ya6 dz1.length yc6] 24))).c0
  have l206 := ((B188.out.al (.cells #[.bool false, .slice xa6 sz1.length xc6, .slice ya6 dz1.length yc6] 24))).c1
  have l207 := ((B188.out.al (.cells #[.bool false, .slice xa6 sz1.length xc6, .slice ya6 dz1.length yc6] 24))).c2
  go_wp2_with fail
  obtain ⟨wo208, hwo208⟩ : ∃ wo208, wo208 = (v10.alloc (.cells #[.bool false, .slice xa6 sz1.length xc6, .slice ya6 dz1.length yc6] 24)) := ⟨_, rfl⟩
  rw [← hwo208]
  have z209 : v10.heap.size + 1 ≤ wo208.heap.size := by rw [hwo208]; simp only [World.size_alloc]; omega
  have B210 : Hid (Abx wo208 (w.heap.size) (.bool false) (.slice (some ⟨b1, o1, none⟩) sz1.length sc1) (.slice da1 dz1.length dc1)) := by rw [hwo208]; exact (B188.out.al (.cells #[.bool false, .slice xa6 sz1.length xc6, .slice ya6 dz1.length yc6] 24))
  have B211 : Hid (Abx wo208 (v5.heap.size) (.bool false) (.slice xa21 SM.length xc21) (.slice ya21 U.length yc21)) := by rw [hwo208]; exact (B189.out.al (.cells #[.bool false, .slice xa6 sz1.length xc6, .slice ya6 dz1.length yc6] 24))
  have B212 : Hid (Abx wo208 (v7.heap.size) (.bool false) (.slice xa31 SN.length xc31) (.slice ya31 V.length yc31)) := by rw [hwo208]; exact (B190.out.al (.cells #[.bool false, .slice xa6 sz1.length xc6, .slice ya6 dz1.length yc6] 24))
  have B213 : Hid (Abx wo208 (v9.heap.size) (.bool false) (.slice xa5 sz1.length xc5) (.slice ya5 dz1.length yc5)) := by rw [hwo208]; exact (B191.out.al (.cells #[.bool false, .slice xa6 sz1.length xc6, .slice ya6 dz1.length yc6] 24))
  have B214 : Hid (Abx wo208 (v10.heap.size) (.bool false) (.slice xa6 sz1.length xc6) (.slice ya6 dz1.length yc6)) := by rw [hwo208]; exact n201
  have L215 : Hid (MidC (wo146.heap.size) (v9.heap.size) wo208 (xa5) (sz1) (xc5)) := by rw [hwo208]; exact (L196.out.al (by omega) (.cells #[.bool false, .slice xa6 sz1.length xc6, .slice ya6 dz1.length yc6] 24))
  have L216 : Hid (MidC (wo146.heap.size) (v9.heap.size) wo208 (ya5) (dz1) (yc5)) := by rw [hwo208]; exact (L197.out.al (by omega) (.cells #[.bool false, .slice xa6 sz1.length xc6, .slice ya6 dz1.length yc6] 24))
  have L217 : Hid (MidC (wo174.heap.size) (v10.heap.size) wo208 (xa6) (sz1) (xc6)) := by rw [hwo208]; exact (L199.out.al (by omega) (.cells #[.bool false, .slice xa6 sz1.length xc6, .slice ya6 dz1.length yc6] 24))
  have L218 : Hid (MidC (wo174.heap.size) (v10.heap.size) wo208 (ya6) (dz1) (yc6)) := by rw [hwo208]; exact (L200.out.al (by omega) (.cells #[.bool false, .slice xa6 sz1.length xc6, .slice ya6 dz1.length yc6] 24))
  have hb219 : Hid (Below w.heap.size w wo208) := by rw [hwo208]; exact (hb198.out.alloc (by omega) (.cells #[.bool false, .slice xa6 sz1.length xc6, .slice ya6 dz1.length yc6] 24))
  have zwo208 : w.heap.size ≤ wo208.heap.size := hb219.out.size
  clear hwo208 n201 l202 l203 l204 l205 l206 l207 hb198 B188 B189 B190 B191 L196 L197 L199 L200
  refine (alike_eq false xa5 xc5 sz1 ya5 yc5 dz1 (some ⟨b1, o1, none⟩) sc1 sz1 da1 dc1 dz1 rfl rfl (by omega) (by omega) _ (L215.out.is (by omega)) (L216.out.is (by omega)).1 ((HI1.out.1.below hb219.out).mono hb219.out.size) ((HI1.out.2.1.1.below hb219.out).mono hb219.out.size)).mono ?_
  rintro e v11 ⟨rfl, hB⟩
  have z220 : wo208.heap.size ≤ v11.heap.size := hB.size
  have B221 : Hid (Abx v11 (w.heap.size) (.bool false) (.slice (some ⟨b1, o1, none⟩) sz1.length sc1) (.slice da1 dz1.length dc1)) := B210.out.go hB
  have B222 : Hid (Abx v11 (v5.heap.size) (.bool false) (.slice xa21 SM.length xc21) (.slice ya21 U.length yc21)) := B211.out.go hB
  have B223 : Hid (Abx v11 (v7.heap.size) (.bool false) (.slice xa31 SN.length xc31) (.slice ya31 V.length yc31)) := B212.out.go hB
  have B224 : Hid (Abx v11 (v9.heap.size) (.bool false) (.slice xa5 sz1.length xc5) (.slice ya5 dz1.length yc5)) := B213.out.go hB
  have B225 : Hid (Abx v11 (v10.heap.size) (.bool false) (.slice xa6 sz1.length xc6) (.slice ya6 dz1.length yc6)) := B214.out.go hB
  have L226 : Hid (MidC (wo146.heap.size) (v9.heap.size) v11 (xa5) (sz1) (xc5)) := L215.out.go (by omega) hB
  have L227 : Hid (MidC (wo146.heap.size) (v9.heap.size) v11 (ya5) (dz1) (yc5)) := L216.out.go (by omega) hB
  have L228 : Hid (MidC (wo174.heap.size) (v10.heap.size) v11 (xa6) (sz1) (xc6)) := L217.out.go (by omega) hB
  have L229 : Hid (MidC (wo174.heap.size) (v10.heap.size) v11 (ya6) (dz1) (yc6)) := L218.out.go (by omega) hB
  have hb230 : Hid (Below w.heap.size w v11) := hb219.out.trans (hB.mono hb219.out.size)
  clear hB hb219 B210 B211 B212 B213 B214 L215 L216 L217 L218
  have l231 := (B225.out).c0
  have l232 := (B225.out).c1
  have l233 := (B225.out).c2
  have l234 := (B221.out).c0
  have l235 := (B221.out).c1
  have l236 := (B221.out).c2
  go_wp2_with fail
  clear l231 l232 l233 l234 l235 l236
  refine (alike_eq false xa6 xc6 sz1 ya6 yc6 dz1 (some ⟨b1, o1, none⟩) sc1 sz1 da1 dc1 dz1 rfl rfl (by omega) (by omega) _ (L228.out.is (by omega)) (L229.out.is (by omega)).1 ((HI1.out.1.below hb230.out).mono hb230.out.size) ((HI1.out.2.1.1.below hb230.out).mono hb230.out.size)).mono ?_
  rintro e v12 ⟨rfl, hB⟩
  have z237 : v11.heap.size ≤ v12.heap.size := hB.size
  have B238 : Hid (Abx v12 (w.heap.size) (.bool false) (.slice (some ⟨b1, o1, none⟩) sz1.length sc1) (.slice da1 dz1.length dc1)) := B221.out.go hB
  have B239 : Hid (Abx v12 (v5.heap.size) (.bool false) (.slice xa21 SM.length xc21) (.slice ya21 U.length yc21)) := B222.out.go hB
  have B240 : Hid (Abx v12 (v7.heap.size) (.bool false) (.slice xa31 SN.length xc31) (.slice ya31 V.length yc31)) := B223.out.go hB
  have B241 : Hid (Abx v12 (v9.heap.size) (.bool false) (.slice xa5 sz1.length xc5) (.slice ya5 dz1.length yc5)) := B224.out.go hB
  have B242 : Hid (Abx v12 (v10.heap.size) (.bool false) (.slice xa6 sz1.length xc6) (.slice ya6 dz1.length yc6)) := B225.out.go hB
  have L243 : Hid (MidC (wo146.heap.size) (v9.heap.size) v12 (xa5) (sz1) (xc5)) := L226.out.go (by omega) hB
  have L244 : Hid (MidC (wo146.heap.size) (v9.heap.size) v12 (ya5) (dz1) (yc5)) := L227.out.go (by omega) hB
  have L245 : Hid (MidC (wo174.heap.size) (v10.heap.size) v12 (xa6) (sz1) (xc6)) := L228.out.go (by omega) hB
  have L246 : Hid (MidC (wo174.heap.size) (v10.heap.size) v12 (ya6) (dz1) (yc6)) := L229.out.go (by omega) hB
  have hb247 : Hid (Below w.heap.size w v12) := hb230.out.trans (hB.mono hb230.out.size)
  clear hB hb230 B221 B222 B223 B224 B225 L226 L227 L228 L229
  go_wp2_with fail
  go_ret
  exact ⟨rfl, hb247.out⟩
theorem punit_walk (HNi : CNi) (HOt : COt) (c1 : Bool) (sa1 : Option Addr) (sc1 : Nat) (sz1 : List Int) (da1 : Option Addr) (dc1 : Nat) (dz1 : List Int) (w : World) (w8 : IsArrD w sa1 sz1 sc1 da1 dz1 dc1) :
    Calls Try.prog 3 #[.agg #[.bool c1, .slice sa1 sz1.length sc1, .slice da1 dz1.length dc1]] w fun e w' => e = .returned (.bool true) ∧ Below w.heap.size w w' := by
  by_cases h1 : GrdP 16 c1 sz1 dz1
  · exact unit_ok HNi HOt c1 sa1 sc1 sz1 da1 dc1 dz1 w w8 h1
  · exact unit_g HNi HOt c1 sa1 sc1 sz1 da1 dc1 dz1 w w8 h1
end Go.Proofs.Ytcpmendkocnlhab
