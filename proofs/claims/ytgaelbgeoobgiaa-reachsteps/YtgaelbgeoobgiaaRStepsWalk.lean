/-
  The walk of the statement ReachSteps, given what the program tells.
-/
import Derived.Test.YtgaelbgeoobgiaaRst
import Derived.Test.YtgaelbgeoobgiaaMidc
import Derived.Test.YtgaelbgeoobgiaaCutq
namespace Go.Proofs.Ytgaelbgeoobgiaa
open Go.RowKit
set_option linter.unusedVariables false

theorem shp14 {w v : World} {b o n sc : Nat} (h : IsC w.heap.size w (some ⟨b, o, none⟩) [(n : Int), (n : Int)] sc) (hB : Below w.heap.size w v) : b < w.heap.size ∧ v.cell? ⟨b, o, none⟩ = some (.int .i64 (n : Int)) := by
  obtain ⟨b', o', e, hb, hc⟩ := (h.1.below hB).at (q := 0) (by simp)
  cases e
  have h0 := hc 0 (by simp)
  rw [Nat.add_zero] at h0
  exact ⟨hb, h0⟩
theorem opn14 {w : World} {sa : Option Addr} {n sc : Nat} (h : IsC w.heap.size w sa [(n : Int), (n : Int)] sc) : ∃ b o, sa = some ⟨b, o, none⟩ := by
  obtain ⟨b, o, e, _, _⟩ := h.1.at (q := 0) (by simp)
  exact ⟨b, o, e⟩
set_option maxRecDepth 100000 in
set_option maxHeartbeats 2000000 in
theorem step_no (HNi : CNi) (H2 : C2d) (HFl : CFl) (c1 : Bool) (sa1 : Option Addr) (sc1 : Nat) (sz1 : List Int) (da1 : Option Addr) (dc1 : Nat) (dz1 : List Int) (w : World) (w8 : IsArrD w sa1 sz1 sc1 da1 dz1 dc1) (h0 : rlE c1 sz1 dz1 ≠ 0) :
    Calls Try.prog 4 #[.agg #[.bool c1, .slice sa1 sz1.length sc1, .slice da1 dz1.length dc1]] w fun e w' => e = .returned (.bool true) ∧ Below w.heap.size w w' := by
  have HI1 : Hid (IsC w.heap.size w sa1 sz1 sc1 ∧ IsC w.heap.size w da1 dz1 dc1) := ⟨w8.2.2.1, w8.2.2.2.1⟩
  have HNe : Hid (rlE c1 sz1 dz1 ≠ 0) := h0
  clear h0
  have n1 := Abx.new w (.bool c1) (.slice sa1 sz1.length sc1) (.slice da1 dz1.length dc1)
  go_enter Try.func4, Try.ntmps4
  go_wp2_with fail
  obtain ⟨wo2, hwo2⟩ : ∃ wo2, wo2 = (w.alloc (.cells #[.bool c1, .slice sa1 sz1.length sc1, .slice da1 dz1.length dc1] 24)) := ⟨_, rfl⟩
  rw [← hwo2]
  have z3 : w.heap.size + 1 ≤ wo2.heap.size := by rw [hwo2]; simp only [World.size_alloc]; omega
  have B4 : Hid (Abx wo2 (w.heap.size) (.bool c1) (.slice sa1 sz1.length sc1) (.slice da1 dz1.length dc1)) := by rw [hwo2]; exact n1
  have hb5 : Hid (Below w.heap.size w wo2) := by rw [hwo2]; exact ((Below.refl w.heap.size w).alloc (by omega) (.cells #[.bool c1, .slice sa1 sz1.length sc1, .slice da1 dz1.length dc1] 24))
  have zwo2 : w.heap.size ≤ wo2.heap.size := hb5.out.size
  clear hwo2 n1
  refine (chain_any _).mono ?_
  rintro e v1 ⟨rfl, hB⟩
  have z6 : wo2.heap.size ≤ v1.heap.size := hB.size
  have B7 : Hid (Abx v1 (w.heap.size) (.bool c1) (.slice sa1 sz1.length sc1) (.slice da1 dz1.length dc1)) := B4.out.go hB
  have hb8 : Hid (Below w.heap.size w v1) := hb5.out.trans (hB.mono hb5.out.size)
  clear hB hb5 B4
  have l9 := (B7.out).c0
  have l10 := (B7.out).c1
  have l11 := (B7.out).c2
  go_wp2_with fail
  clear l9 l10 l11
  refine (clo_no c1 sa1 sc1 sz1 da1 dc1 dz1 _ w8.1 w8.2.1 ((HI1.out.1.below hb8.out).mono hb8.out.size).1 ((HI1.out.2.below hb8.out).mono hb8.out.size).1 HNe.out).mono ?_
  rintro e v2 ⟨rfl, hB⟩
  have z12 : v1.heap.size ≤ v2.heap.size := hB.size
  have B13 : Hid (Abx v2 (w.heap.size) (.bool c1) (.slice sa1 sz1.length sc1) (.slice da1 dz1.length dc1)) := B7.out.go hB
  have hb14 : Hid (Below w.heap.size w v2) := hb8.out.trans (hB.mono hb8.out.size)
  clear hB hb8 B7
  have n15 := Abx.new v2 (.bool false) (.slice none 0 0) (.slice none 0 0)
  go_wp2_with fail
  obtain ⟨wo16, hwo16⟩ : ∃ wo16, wo16 = (v2.alloc (.cells #[.bool false, .slice none 0 0, .slice none 0 0] 24)) := ⟨_, rfl⟩
  rw [← hwo16]
  have z17 : v2.heap.size + 1 ≤ wo16.heap.size := by rw [hwo16]; simp only [World.size_alloc]; omega
  have B18 : Hid (Abx wo16 (w.heap.size) (.bool c1) (.slice sa1 sz1.length sc1) (.slice da1 dz1.length dc1)) := by rw [hwo16]; exact (B13.out.al (.cells #[.bool false, .slice none 0 0, .slice none 0 0] 24))
  have B19 : Hid (Abx wo16 (v2.heap.size) (.bool false) (.slice none 0 0) (.slice none 0 0)) := by rw [hwo16]; exact n15
  have hb20 : Hid (Below w.heap.size w wo16) := by rw [hwo16]; exact (hb14.out.alloc (by omega) (.cells #[.bool false, .slice none 0 0, .slice none 0 0] 24))
  have zwo16 : w.heap.size ≤ wo16.heap.size := hb20.out.size
  clear hwo16 n15 hb14 B13
  go_wp2_with fail
  go_ret
  exact ⟨rfl, hb20.out⟩
set_option maxRecDepth 100000 in
set_option maxHeartbeats 2000000 in
theorem step_ok (HNi : CNi) (H2 : C2d) (HFl : CFl) (n : Nat) (hn : n ≤ 24) (b1 o1 sc1 : Nat) (da1 : Option Addr) (dc1 : Nat) (dz1 : List Int) (HL1 : Hid (dz1.length = n * n)) (w : World) (HI1 : Hid (IsC w.heap.size w (some ⟨b1, o1, none⟩) [(n : Int), (n : Int)] sc1 ∧ IsC w.heap.size w da1 dz1 dc1 ∧ ∀ j, In64 (nth dz1 j))) (hk1 : mskB dz1 = true) :
    Calls Try.prog 4 #[.agg #[.bool false, .slice (some ⟨b1, o1, none⟩) 2 sc1, .slice da1 dz1.length dc1]] w fun e w' => e = .returned (.bool true) ∧ Below w.heap.size w w' := by
  have HK1 : Hid (mskB dz1 = true) := hk1
  obtain ⟨N, hN⟩ : ∃ N, N = n * n := ⟨_, rfl⟩
  have N576 : N ≤ 576 := by have : n * n ≤ 24 * 24 := Nat.mul_le_mul hn hn; omega
  have HN : Hid (N = n * n ∧ dz1.length = N) := ⟨hN, by rw [HL1.out, hN]⟩
  clear hN
  have hmul : (n : Int) * (n : Int) = (N : Int) := by rw [HN.out.1]; simp
  have HSh : Hid (∀ v, Below w.heap.size w v → v.cell? ⟨b1, o1, none⟩ = some (.int .i64 (n : Int))) := fun v h => (shp14 HI1.out.1 h).2
  have HLp : Hid ((clL n (clB (rdR n dz1) n)).length = N) := by show _ = _; rw [clL_len, HN.out.1]
  have HA : Hid (dz1 = clL n (rdR n dz1)) := (clL_rdR HL1.out hk1).symm
  clear hk1
  rw [HN.out.2]
  have n1 := Abx.new w (.bool false) (.slice (some ⟨b1, o1, none⟩) 2 sc1) (.slice da1 N dc1)
  go_enter Try.func4, Try.ntmps4
  go_wp2_with fail
  obtain ⟨wo2, hwo2⟩ : ∃ wo2, wo2 = (w.alloc (.cells #[.bool false, .slice (some ⟨b1, o1, none⟩) 2 sc1, .slice da1 N dc1] 24)) := ⟨_, rfl⟩
  rw [← hwo2]
  have z3 : w.heap.size + 1 ≤ wo2.heap.size := by rw [hwo2]; simp only [World.size_alloc]; omega
  have B4 : Hid (Abx wo2 (w.heap.size) (.bool false) (.slice (some ⟨b1, o1, none⟩) 2 sc1) (.slice da1 N dc1)) := by rw [hwo2]; exact n1
  have hb5 : Hid (Below w.heap.size w wo2) := by rw [hwo2]; exact ((Below.refl w.heap.size w).alloc (by omega) (.cells #[.bool false, .slice (some ⟨b1, o1, none⟩) 2 sc1, .slice da1 N dc1] 24))
  have zwo2 : w.heap.size ≤ wo2.heap.size := hb5.out.size
  clear hwo2 n1
  refine (chain_any _).mono ?_
  rintro e v1 ⟨rfl, hB⟩
  have z6 : wo2.heap.size ≤ v1.heap.size := hB.size
  have B7 : Hid (Abx v1 (w.heap.size) (.bool false) (.slice (some ⟨b1, o1, none⟩) 2 sc1) (.slice da1 N dc1)) := B4.out.go hB
  have hb8 : Hid (Below w.heap.size w v1) := hb5.out.trans (hB.mono hb5.out.size)
  clear hB hb5 B4
  have l9 := (B7.out).c0
  have l10 := (B7.out).c1
  have l11 := (B7.out).c2
  go_wp2_with fail
  clear l9 l10 l11
  refine (clo_ok n hn (some ⟨b1, o1, none⟩) sc1 da1 dc1 dz1 N HN.out.2 HL1.out HK1.out _ ((HI1.out.1.below hb8.out).mono hb8.out.size).1 ((HI1.out.2.1.below hb8.out).mono hb8.out.size).1).mono ?_
  rintro e v2 ⟨xa1, xc1, ya1, yc1, rfl, hX1, hY1, hB⟩
  have z12 : v1.heap.size ≤ v2.heap.size := hB.size
  have B13 : Hid (Abx v2 (w.heap.size) (.bool false) (.slice (some ⟨b1, o1, none⟩) 2 sc1) (.slice da1 N dc1)) := B7.out.go hB
  have hb14 : Hid (Below w.heap.size w v2) := hb8.out.trans (hB.mono hb8.out.size)
  have L15 : Hid (MidC (v1.heap.size) (v2.heap.size) v2 (xa1) ([(n : Int), (n : Int)]) (xc1)) := hX1.midc
  have L16 : Hid (MidC (v1.heap.size) (v2.heap.size) v2 (ya1) (clL n (clB (rdR n dz1) n)) (yc1)) := hY1.midc
  clear hB hb8 B7 hX1 hY1
  rw [HLp.out]
  have n17 := Abx.new v2 (.bool false) (.slice (xa1) 2 (xc1)) (.slice (ya1) (N) (yc1))
  have l18 := ((B13.out.al (.cells #[.bool false, .slice (xa1) 2 (xc1), .slice (ya1) (N) (yc1)] 24))).c0
  have l19 := ((B13.out.al (.cells #[.bool false, .slice (xa1) 2 (xc1), .slice (ya1) (N) (yc1)] 24))).c1
  have l20 := ((B13.out.al (.cells #[.bool false, .slice (xa1) 2 (xc1), .slice (ya1) (N) (yc1)] 24))).c2
  have l21 := (n17).c0
  have l22 := (n17).c1
  have l23 := (n17).c2
  go_wp2_with fail
  obtain ⟨wo24, hwo24⟩ : ∃ wo24, wo24 = (v2.alloc (.cells #[.bool false, .slice (xa1) 2 (xc1), .slice (ya1) (N) (yc1)] 24)) := ⟨_, rfl⟩
  rw [← hwo24]
  have z25 : v2.heap.size + 1 ≤ wo24.heap.size := by rw [hwo24]; simp only [World.size_alloc]; omega
  have B26 : Hid (Abx wo24 (w.heap.size) (.bool false) (.slice (some ⟨b1, o1, none⟩) 2 sc1) (.slice da1 N dc1)) := by rw [hwo24]; exact (B13.out.al (.cells #[.bool false, .slice (xa1) 2 (xc1), .slice (ya1) (N) (yc1)] 24))
  have B27 : Hid (Abx wo24 (v2.heap.size) (.bool false) (.slice (xa1) 2 (xc1)) (.slice (ya1) (N) (yc1))) := by rw [hwo24]; exact n17
  have L28 : Hid (MidC (v1.heap.size) (v2.heap.size) wo24 (xa1) ([(n : Int), (n : Int)]) (xc1)) := by rw [hwo24]; exact (L15.out.al (by omega) (.cells #[.bool false, .slice (xa1) 2 (xc1), .slice (ya1) (N) (yc1)] 24))
  have L29 : Hid (MidC (v1.heap.size) (v2.heap.size) wo24 (ya1) (clL n (clB (rdR n dz1) n)) (yc1)) := by rw [hwo24]; exact (L16.out.al (by omega) (.cells #[.bool false, .slice (xa1) 2 (xc1), .slice (ya1) (N) (yc1)] 24))
  have hb30 : Hid (Below w.heap.size w wo24) := by rw [hwo24]; exact (hb14.out.alloc (by omega) (.cells #[.bool false, .slice (xa1) 2 (xc1), .slice (ya1) (N) (yc1)] 24))
  have zwo24 : w.heap.size ≤ wo24.heap.size := hb30.out.size
  clear hwo24 n17 l18 l19 l20 l21 l22 l23 hb14 B13 L15 L16
  refine (inner24 HNi n N hn (rdR n dz1) (clB (rdR n dz1) n) HN.out.1 (some ⟨b1, o1, none⟩) sc1 da1 dc1 dz1 HA.out (xa1) (xc1) (ya1) (yc1) (clL n (clB (rdR n dz1) n)) rfl _ ((HI1.out.1.below hb30.out).mono hb30.out.size) ((HI1.out.2.1.below hb30.out).mono hb30.out.size).1 (L28.out.is (by omega)) (L29.out.is (by omega)).1).mono ?_
  rintro e v3 ⟨xa2, xc2, ya2, yc2, rfl, hX2, hY2, hB⟩
  have z31 : wo24.heap.size ≤ v3.heap.size := hB.size
  have B32 : Hid (Abx v3 (w.heap.size) (.bool false) (.slice (some ⟨b1, o1, none⟩) 2 sc1) (.slice da1 N dc1)) := B26.out.go hB
  have B33 : Hid (Abx v3 (v2.heap.size) (.bool false) (.slice (xa1) 2 (xc1)) (.slice (ya1) (N) (yc1))) := B27.out.go hB
  have L34 : Hid (MidC (v1.heap.size) (v2.heap.size) v3 (xa1) ([(n : Int), (n : Int)]) (xc1)) := L28.out.go (by omega) hB
  have L35 : Hid (MidC (v1.heap.size) (v2.heap.size) v3 (ya1) (clL n (clB (rdR n dz1) n)) (yc1)) := L29.out.go (by omega) hB
  have hb36 : Hid (Below w.heap.size w v3) := hb30.out.trans (hB.mono hb30.out.size)
  have L37 : Hid (MidC (wo24.heap.size) (v3.heap.size) v3 (xa2) ([(n : Int), (n : Int)]) (xc2)) := hX2.midc
  have L38 : Hid (MidC (wo24.heap.size) (v3.heap.size) v3 (ya2) (clL n (stB (rdR n dz1) (clB (rdR n dz1) n) n)) (yc2)) := hY2.midc
  clear hB hb30 B26 B27 L28 L29 hX2 hY2
  have n39 := Abx.new v3 (.bool false) (.slice (xa2) 2 (xc2)) (.slice (ya2) (N) (yc2))
  have l40 := ((B32.out.al (.cells #[.bool false, .slice (xa2) 2 (xc2), .slice (ya2) (N) (yc2)] 24))).c0
  have l41 := ((B32.out.al (.cells #[.bool false, .slice (xa2) 2 (xc2), .slice (ya2) (N) (yc2)] 24))).c1
  have l42 := ((B32.out.al (.cells #[.bool false, .slice (xa2) 2 (xc2), .slice (ya2) (N) (yc2)] 24))).c2
  have l43 := (n39).c0
  have l44 := (n39).c1
  have l45 := (n39).c2
  go_wp2_with fail
  obtain ⟨wo46, hwo46⟩ : ∃ wo46, wo46 = (v3.alloc (.cells #[.bool false, .slice (xa2) 2 (xc2), .slice (ya2) (N) (yc2)] 24)) := ⟨_, rfl⟩
  rw [← hwo46]
  have z47 : v3.heap.size + 1 ≤ wo46.heap.size := by rw [hwo46]; simp only [World.size_alloc]; omega
  have B48 : Hid (Abx wo46 (w.heap.size) (.bool false) (.slice (some ⟨b1, o1, none⟩) 2 sc1) (.slice da1 N dc1)) := by rw [hwo46]; exact (B32.out.al (.cells #[.bool false, .slice (xa2) 2 (xc2), .slice (ya2) (N) (yc2)] 24))
  have B49 : Hid (Abx wo46 (v2.heap.size) (.bool false) (.slice (xa1) 2 (xc1)) (.slice (ya1) (N) (yc1))) := by rw [hwo46]; exact (B33.out.al (.cells #[.bool false, .slice (xa2) 2 (xc2), .slice (ya2) (N) (yc2)] 24))
  have B50 : Hid (Abx wo46 (v3.heap.size) (.bool false) (.slice (xa2) 2 (xc2)) (.slice (ya2) (N) (yc2))) := by rw [hwo46]; exact n39
  have L51 : Hid (MidC (v1.heap.size) (v2.heap.size) wo46 (xa1) ([(n : Int), (n : Int)]) (xc1)) := by rw [hwo46]; exact (L34.out.al (by omega) (.cells #[.bool false, .slice (xa2) 2 (xc2), .slice (ya2) (N) (yc2)] 24))
  have L52 : Hid (MidC (v1.heap.size) (v2.heap.size) wo46 (ya1) (clL n (clB (rdR n dz1) n)) (yc1)) := by rw [hwo46]; exact (L35.out.al (by omega) (.cells #[.bool false, .slice (xa2) 2 (xc2), .slice (ya2) (N) (yc2)] 24))
  have L53 : Hid (MidC (wo24.heap.size) (v3.heap.size) wo46 (xa2) ([(n : Int), (n : Int)]) (xc2)) := by rw [hwo46]; exact (L37.out.al (by omega) (.cells #[.bool false, .slice (xa2) 2 (xc2), .slice (ya2) (N) (yc2)] 24))
  have L54 : Hid (MidC (wo24.heap.size) (v3.heap.size) wo46 (ya2) (clL n (stB (rdR n dz1) (clB (rdR n dz1) n) n)) (yc2)) := by rw [hwo46]; exact (L38.out.al (by omega) (.cells #[.bool false, .slice (xa2) 2 (xc2), .slice (ya2) (N) (yc2)] 24))
  have hb55 : Hid (Below w.heap.size w wo46) := by rw [hwo46]; exact (hb36.out.alloc (by omega) (.cells #[.bool false, .slice (xa2) 2 (xc2), .slice (ya2) (N) (yc2)] 24))
  have zwo46 : w.heap.size ≤ wo46.heap.size := hb55.out.size
  clear hwo46 n39 l40 l41 l42 l43 l44 l45 hb36 B32 B33 L34 L35 L37 L38
  refine (two24 H2 n N hn (rdR n dz1) (stB (rdR n dz1) (clB (rdR n dz1) n) n) HN.out.1 (some ⟨b1, o1, none⟩) sc1 da1 dc1 dz1 HA.out (xa2) (xc2) (ya2) (yc2) (clL n (stB (rdR n dz1) (clB (rdR n dz1) n) n)) rfl (clL n (clB (rdR n dz1) n)) (st_first (rdR n dz1) n) _ ((HI1.out.1.below hb55.out).mono hb55.out.size) ((HI1.out.2.1.below hb55.out).mono hb55.out.size).1 (L53.out.is (by omega)) (L54.out.is (by omega)).1).mono ?_
  rintro e v4 ⟨xa3, xc3, ya3, yc3, rfl, hX3, hY3, hB⟩
  have z56 : wo46.heap.size ≤ v4.heap.size := hB.size
  have B57 : Hid (Abx v4 (w.heap.size) (.bool false) (.slice (some ⟨b1, o1, none⟩) 2 sc1) (.slice da1 N dc1)) := B48.out.go hB
  have B58 : Hid (Abx v4 (v2.heap.size) (.bool false) (.slice (xa1) 2 (xc1)) (.slice (ya1) (N) (yc1))) := B49.out.go hB
  have B59 : Hid (Abx v4 (v3.heap.size) (.bool false) (.slice (xa2) 2 (xc2)) (.slice (ya2) (N) (yc2))) := B50.out.go hB
  have L60 : Hid (MidC (v1.heap.size) (v2.heap.size) v4 (xa1) ([(n : Int), (n : Int)]) (xc1)) := L51.out.go (by omega) hB
  have L61 : Hid (MidC (v1.heap.size) (v2.heap.size) v4 (ya1) (clL n (clB (rdR n dz1) n)) (yc1)) := L52.out.go (by omega) hB
  have L62 : Hid (MidC (wo24.heap.size) (v3.heap.size) v4 (xa2) ([(n : Int), (n : Int)]) (xc2)) := L53.out.go (by omega) hB
  have L63 : Hid (MidC (wo24.heap.size) (v3.heap.size) v4 (ya2) (clL n (stB (rdR n dz1) (clB (rdR n dz1) n) n)) (yc2)) := L54.out.go (by omega) hB
  have hb64 : Hid (Below w.heap.size w v4) := hb55.out.trans (hB.mono hb55.out.size)
  have L65 : Hid (MidC (wo46.heap.size) (v4.heap.size) v4 (xa3) ([(n : Int), (n : Int)]) (xc3)) := hX3.midc
  have L66 : Hid (MidC (wo46.heap.size) (v4.heap.size) v4 (ya3) (clL n (clB (rdR n dz1) n)) (yc3)) := hY3.midc
  clear hB hb55 B48 B49 B50 L51 L52 L53 L54 hX3 hY3
  clear L62 L63 B59
  have n67 := Abx.new v4 (.bool false) (.slice (xa3) 2 (xc3)) (.slice (ya3) (N) (yc3))
  have l68 := (n67).c0
  have l69 := (n67).c1
  have l70 := (n67).c2
  have l71 := ((B58.out.al (.cells #[.bool false, .slice (xa3) 2 (xc3), .slice (ya3) (N) (yc3)] 24))).c0
  have l72 := ((B58.out.al (.cells #[.bool false, .slice (xa3) 2 (xc3), .slice (ya3) (N) (yc3)] 24))).c1
  have l73 := ((B58.out.al (.cells #[.bool false, .slice (xa3) 2 (xc3), .slice (ya3) (N) (yc3)] 24))).c2
  go_wp2_with fail
  obtain ⟨wo74, hwo74⟩ : ∃ wo74, wo74 = (v4.alloc (.cells #[.bool false, .slice (xa3) 2 (xc3), .slice (ya3) (N) (yc3)] 24)) := ⟨_, rfl⟩
  rw [← hwo74]
  have z75 : v4.heap.size + 1 ≤ wo74.heap.size := by rw [hwo74]; simp only [World.size_alloc]; omega
  have B76 : Hid (Abx wo74 (w.heap.size) (.bool false) (.slice (some ⟨b1, o1, none⟩) 2 sc1) (.slice da1 N dc1)) := by rw [hwo74]; exact (B57.out.al (.cells #[.bool false, .slice (xa3) 2 (xc3), .slice (ya3) (N) (yc3)] 24))
  have B77 : Hid (Abx wo74 (v2.heap.size) (.bool false) (.slice (xa1) 2 (xc1)) (.slice (ya1) (N) (yc1))) := by rw [hwo74]; exact (B58.out.al (.cells #[.bool false, .slice (xa3) 2 (xc3), .slice (ya3) (N) (yc3)] 24))
  have B78 : Hid (Abx wo74 (v4.heap.size) (.bool false) (.slice (xa3) 2 (xc3)) (.slice (ya3) (N) (yc3))) := by rw [hwo74]; exact n67
  have L79 : Hid (MidC (v1.heap.size) (v2.heap.size) wo74 (xa1) ([(n : Int), (n : Int)]) (xc1)) := by rw [hwo74]; exact (L60.out.al (by omega) (.cells #[.bool false, .slice (xa3) 2 (xc3), .slice (ya3) (N) (yc3)] 24))
  have L80 : Hid (MidC (v1.heap.size) (v2.heap.size) wo74 (ya1) (clL n (clB (rdR n dz1) n)) (yc1)) := by rw [hwo74]; exact (L61.out.al (by omega) (.cells #[.bool false, .slice (xa3) 2 (xc3), .slice (ya3) (N) (yc3)] 24))
  have L81 : Hid (MidC (wo46.heap.size) (v4.heap.size) wo74 (xa3) ([(n : Int), (n : Int)]) (xc3)) := by rw [hwo74]; exact (L65.out.al (by omega) (.cells #[.bool false, .slice (xa3) 2 (xc3), .slice (ya3) (N) (yc3)] 24))
  have L82 : Hid (MidC (wo46.heap.size) (v4.heap.size) wo74 (ya3) (clL n (clB (rdR n dz1) n)) (yc3)) := by rw [hwo74]; exact (L66.out.al (by omega) (.cells #[.bool false, .slice (xa3) 2 (xc3), .slice (ya3) (N) (yc3)] 24))
  have hb83 : Hid (Below w.heap.size w wo74) := by rw [hwo74]; exact (hb64.out.alloc (by omega) (.cells #[.bool false, .slice (xa3) 2 (xc3), .slice (ya3) (N) (yc3)] 24))
  have zwo74 : w.heap.size ≤ wo74.heap.size := hb83.out.size
  clear hwo74 n67 l68 l69 l70 l71 l72 l73 hb64 B57 B58 L60 L61 L65 L66
  refine (alike15 n N (xa3) (xc3) (ya3) (yc3) (clL n (clB (rdR n dz1) n)) (xa1) (xc1) (ya1) (yc1) (clL n (clB (rdR n dz1) n)) HLp.out N576 rfl _ (L81.out.is (by omega)) (L82.out.is (by omega)).1 (L79.out.is (by omega)) (L80.out.is (by omega)).1).mono ?_
  rintro e v5 ⟨rfl, hB⟩
  have z84 : wo74.heap.size ≤ v5.heap.size := hB.size
  have B85 : Hid (Abx v5 (w.heap.size) (.bool false) (.slice (some ⟨b1, o1, none⟩) 2 sc1) (.slice da1 N dc1)) := B76.out.go hB
  have B86 : Hid (Abx v5 (v2.heap.size) (.bool false) (.slice (xa1) 2 (xc1)) (.slice (ya1) (N) (yc1))) := B77.out.go hB
  have B87 : Hid (Abx v5 (v4.heap.size) (.bool false) (.slice (xa3) 2 (xc3)) (.slice (ya3) (N) (yc3))) := B78.out.go hB
  have L88 : Hid (MidC (v1.heap.size) (v2.heap.size) v5 (xa1) ([(n : Int), (n : Int)]) (xc1)) := L79.out.go (by omega) hB
  have L89 : Hid (MidC (v1.heap.size) (v2.heap.size) v5 (ya1) (clL n (clB (rdR n dz1) n)) (yc1)) := L80.out.go (by omega) hB
  have L90 : Hid (MidC (wo46.heap.size) (v4.heap.size) v5 (xa3) ([(n : Int), (n : Int)]) (xc3)) := L81.out.go (by omega) hB
  have L91 : Hid (MidC (wo46.heap.size) (v4.heap.size) v5 (ya3) (clL n (clB (rdR n dz1) n)) (yc3)) := L82.out.go (by omega) hB
  have hb92 : Hid (Below w.heap.size w v5) := hb83.out.trans (hB.mono hb83.out.size)
  clear hB hb83 B76 B77 B78 L79 L80 L81 L82
  clear L90 L91 B87
  have n93 := lit_mid v5 3 [1, 0] 2 rfl
  simp only [List.map_cons, List.map_nil] at n93
  have l94 := ((B85.out.al (.cells #[.int .i64 1, .int .i64 0] 3))).c0
  have l95 := ((B85.out.al (.cells #[.int .i64 1, .int .i64 0] 3))).c1
  have l96 := ((B85.out.al (.cells #[.int .i64 1, .int .i64 0] 3))).c2
  go_wp2_with fail
  obtain ⟨wo97, hwo97⟩ : ∃ wo97, wo97 = (v5.alloc (.cells #[.int .i64 1, .int .i64 0] 3)) := ⟨_, rfl⟩
  rw [← hwo97]
  have z98 : v5.heap.size + 1 ≤ wo97.heap.size := by rw [hwo97]; simp only [World.size_alloc]; omega
  have B99 : Hid (Abx wo97 (w.heap.size) (.bool false) (.slice (some ⟨b1, o1, none⟩) 2 sc1) (.slice da1 N dc1)) := by rw [hwo97]; exact (B85.out.al (.cells #[.int .i64 1, .int .i64 0] 3))
  have B100 : Hid (Abx wo97 (v2.heap.size) (.bool false) (.slice (xa1) 2 (xc1)) (.slice (ya1) (N) (yc1))) := by rw [hwo97]; exact (B86.out.al (.cells #[.int .i64 1, .int .i64 0] 3))
  have L101 : Hid (MidC (v1.heap.size) (v2.heap.size) wo97 (xa1) ([(n : Int), (n : Int)]) (xc1)) := by rw [hwo97]; exact (L88.out.al (by omega) (.cells #[.int .i64 1, .int .i64 0] 3))
  have L102 : Hid (MidC (v1.heap.size) (v2.heap.size) wo97 (ya1) (clL n (clB (rdR n dz1) n)) (yc1)) := by rw [hwo97]; exact (L89.out.al (by omega) (.cells #[.int .i64 1, .int .i64 0] 3))
  have L103 : Hid (MidC (v5.heap.size) (v5.heap.size + 1) wo97 (some ⟨v5.heap.size, 0, none⟩) ([1, 0]) (2)) := by rw [hwo97]; exact n93
  have hb104 : Hid (Below w.heap.size w wo97) := by rw [hwo97]; exact (hb92.out.alloc (by omega) (.cells #[.int .i64 1, .int .i64 0] 3))
  have zwo97 : w.heap.size ≤ wo97.heap.size := hb104.out.size
  clear hwo97 n93 l94 l95 l96 hb92 B85 B86 L88 L89
  refine (flip24 HFl n N hn (rdR n dz1) HN.out.1 (some ⟨v5.heap.size, 0, none⟩) 2 (some ⟨b1, o1, none⟩) sc1 da1 dc1 dz1 HA.out _ (L103.out.is (by omega)).1 ((HI1.out.1.below hb104.out).mono hb104.out.size) ((HI1.out.2.1.below hb104.out).mono hb104.out.size).1).mono ?_
  rintro e v6 ⟨xa4, xc4, ya4, yc4, rfl, hX4, hY4, hB⟩
  have z105 : wo97.heap.size ≤ v6.heap.size := hB.size
  have B106 : Hid (Abx v6 (w.heap.size) (.bool false) (.slice (some ⟨b1, o1, none⟩) 2 sc1) (.slice da1 N dc1)) := B99.out.go hB
  have B107 : Hid (Abx v6 (v2.heap.size) (.bool false) (.slice (xa1) 2 (xc1)) (.slice (ya1) (N) (yc1))) := B100.out.go hB
  have L108 : Hid (MidC (v1.heap.size) (v2.heap.size) v6 (xa1) ([(n : Int), (n : Int)]) (xc1)) := L101.out.go (by omega) hB
  have L109 : Hid (MidC (v1.heap.size) (v2.heap.size) v6 (ya1) (clL n (clB (rdR n dz1) n)) (yc1)) := L102.out.go (by omega) hB
  have L110 : Hid (MidC (v5.heap.size) (v5.heap.size + 1) v6 (some ⟨v5.heap.size, 0, none⟩) ([1, 0]) (2)) := L103.out.go (by omega) hB
  have hb111 : Hid (Below w.heap.size w v6) := hb104.out.trans (hB.mono hb104.out.size)
  have L112 : Hid (MidC (wo97.heap.size) (v6.heap.size) v6 (xa4) ([(n : Int), (n : Int)]) (xc4)) := hX4.midc
  have L113 : Hid (MidC (wo97.heap.size) (v6.heap.size) v6 (ya4) (clL n (fun i j => rdR n dz1 j i)) (N)) := hY4.midc
  clear hB hb104 B99 B100 L101 L102 L103 hX4 hY4
  clear L110
  have n114 := Abx.new v6 (.bool false) (.slice (xa4) 2 (xc4)) (.slice (ya4) N yc4)
  have l115 := (n114).c0
  have l116 := (n114).c1
  have l117 := (n114).c2
  go_wp2_with fail
  obtain ⟨wo118, hwo118⟩ : ∃ wo118, wo118 = (v6.alloc (.cells #[.bool false, .slice (xa4) 2 (xc4), .slice (ya4) N yc4] 24)) := ⟨_, rfl⟩
  rw [← hwo118]
  have z119 : v6.heap.size + 1 ≤ wo118.heap.size := by rw [hwo118]; simp only [World.size_alloc]; omega
  have B120 : Hid (Abx wo118 (w.heap.size) (.bool false) (.slice (some ⟨b1, o1, none⟩) 2 sc1) (.slice da1 N dc1)) := by rw [hwo118]; exact (B106.out.al (.cells #[.bool false, .slice (xa4) 2 (xc4), .slice (ya4) N yc4] 24))
  have B121 : Hid (Abx wo118 (v2.heap.size) (.bool false) (.slice (xa1) 2 (xc1)) (.slice (ya1) (N) (yc1))) := by rw [hwo118]; exact (B107.out.al (.cells #[.bool false, .slice (xa4) 2 (xc4), .slice (ya4) N yc4] 24))
  have B122 : Hid (Abx wo118 (v6.heap.size) (.bool false) (.slice (xa4) 2 (xc4)) (.slice (ya4) N yc4)) := by rw [hwo118]; exact n114
  have L123 : Hid (MidC (v1.heap.size) (v2.heap.size) wo118 (xa1) ([(n : Int), (n : Int)]) (xc1)) := by rw [hwo118]; exact (L108.out.al (by omega) (.cells #[.bool false, .slice (xa4) 2 (xc4), .slice (ya4) N yc4] 24))
  have L124 : Hid (MidC (v1.heap.size) (v2.heap.size) wo118 (ya1) (clL n (clB (rdR n dz1) n)) (yc1)) := by rw [hwo118]; exact (L109.out.al (by omega) (.cells #[.bool false, .slice (xa4) 2 (xc4), .slice (ya4) N yc4] 24))
  have L125 : Hid (MidC (wo97.heap.size) (v6.heap.size) wo118 (xa4) ([(n : Int), (n : Int)]) (xc4)) := by rw [hwo118]; exact (L112.out.al (by omega) (.cells #[.bool false, .slice (xa4) 2 (xc4), .slice (ya4) N yc4] 24))
  have L126 : Hid (MidC (wo97.heap.size) (v6.heap.size) wo118 (ya4) (clL n (fun i j => rdR n dz1 j i)) (N)) := by rw [hwo118]; exact (L113.out.al (by omega) (.cells #[.bool false, .slice (xa4) 2 (xc4), .slice (ya4) N yc4] 24))
  have hb127 : Hid (Below w.heap.size w wo118) := by rw [hwo118]; exact (hb111.out.alloc (by omega) (.cells #[.bool false, .slice (xa4) 2 (xc4), .slice (ya4) N yc4] 24))
  have zwo118 : w.heap.size ≤ wo118.heap.size := hb127.out.size
  clear hwo118 n114 l115 l116 l117 hb111 B106 B107 L108 L109 L112 L113
  refine (clo_ok n hn (xa4) xc4 (ya4) yc4 (clL n (fun i j => rdR n dz1 j i)) N (by rw [clL_len, HN.out.1]) (clL_len n _) (clL_msk n _) _ (L125.out.is (by omega)).1 (L126.out.is (by omega)).1).mono ?_
  rintro e v7 ⟨xa5, xc5, ya5, yc5, rfl, hX5, hY5, hB⟩
  have z128 : wo118.heap.size ≤ v7.heap.size := hB.size
  have B129 : Hid (Abx v7 (w.heap.size) (.bool false) (.slice (some ⟨b1, o1, none⟩) 2 sc1) (.slice da1 N dc1)) := B120.out.go hB
  have B130 : Hid (Abx v7 (v2.heap.size) (.bool false) (.slice (xa1) 2 (xc1)) (.slice (ya1) (N) (yc1))) := B121.out.go hB
  have B131 : Hid (Abx v7 (v6.heap.size) (.bool false) (.slice (xa4) 2 (xc4)) (.slice (ya4) N yc4)) := B122.out.go hB
  have L132 : Hid (MidC (v1.heap.size) (v2.heap.size) v7 (xa1) ([(n : Int), (n : Int)]) (xc1)) := L123.out.go (by omega) hB
  have L133 : Hid (MidC (v1.heap.size) (v2.heap.size) v7 (ya1) (clL n (clB (rdR n dz1) n)) (yc1)) := L124.out.go (by omega) hB
  have L134 : Hid (MidC (wo97.heap.size) (v6.heap.size) v7 (xa4) ([(n : Int), (n : Int)]) (xc4)) := L125.out.go (by omega) hB
  have L135 : Hid (MidC (wo97.heap.size) (v6.heap.size) v7 (ya4) (clL n (fun i j => rdR n dz1 j i)) (N)) := L126.out.go (by omega) hB
  have hb136 : Hid (Below w.heap.size w v7) := hb127.out.trans (hB.mono hb127.out.size)
  have L137 : Hid (MidC (wo118.heap.size) (v7.heap.size) v7 (xa5) ([(n : Int), (n : Int)]) (xc5)) := hX5.midc
  have L138 : Hid (MidC (wo118.heap.size) (v7.heap.size) v7 (ya5) (clL n (clB (rdR n (clL n (fun i j => rdR n dz1 j i))) n)) (yc5)) := hY5.midc
  clear hB hb127 B120 B121 B122 L123 L124 L125 L126 hX5 hY5
  rw [show (clL n (clB (rdR n (clL n (fun i j => rdR n dz1 j i))) n)).length = N by rw [clL_len, HN.out.1]]
  clear L134 L135 B131
  have n139 := Abx.new v7 (.bool false) (.slice (xa5) 2 (xc5)) (.slice (ya5) (N) (yc5))
  have n140 := lit_mid (v7.alloc (.cells #[.bool false, .slice (xa5) 2 (xc5), .slice (ya5) (N) (yc5)] 24)) 3 [1, 0] 2 rfl
  simp only [World.size_alloc, List.map_cons, List.map_nil] at n140
  have l141 := (((B130.out.al (.cells #[.bool false, .slice (xa5) 2 (xc5), .slice (ya5) (N) (yc5)] 24)).al (.cells #[.int .i64 1, .int .i64 0] 3))).c0
  have l142 := (((B130.out.al (.cells #[.bool false, .slice (xa5) 2 (xc5), .slice (ya5) (N) (yc5)] 24)).al (.cells #[.int .i64 1, .int .i64 0] 3))).c1
  have l143 := (((B130.out.al (.cells #[.bool false, .slice (xa5) 2 (xc5), .slice (ya5) (N) (yc5)] 24)).al (.cells #[.int .i64 1, .int .i64 0] 3))).c2
  go_wp2_with fail
  obtain ⟨wo144, hwo144⟩ : ∃ wo144, wo144 = ((v7.alloc (.cells #[.bool false, .slice (xa5) 2 (xc5), .slice (ya5) (N) (yc5)] 24)).alloc (.cells #[.int .i64 1, .int .i64 0] 3)) := ⟨_, rfl⟩
  rw [← hwo144]
  have z145 : v7.heap.size + 1 + 1 ≤ wo144.heap.size := by rw [hwo144]; simp only [World.size_alloc]; omega
  have B146 : Hid (Abx wo144 (w.heap.size) (.bool false) (.slice (some ⟨b1, o1, none⟩) 2 sc1) (.slice da1 N dc1)) := by rw [hwo144]; exact ((B129.out.al (.cells #[.bool false, .slice (xa5) 2 (xc5), .slice (ya5) (N) (yc5)] 24)).al (.cells #[.int .i64 1, .int .i64 0] 3))
  have B147 : Hid (Abx wo144 (v2.heap.size) (.bool false) (.slice (xa1) 2 (xc1)) (.slice (ya1) (N) (yc1))) := by rw [hwo144]; exact ((B130.out.al (.cells #[.bool false, .slice (xa5) 2 (xc5), .slice (ya5) (N) (yc5)] 24)).al (.cells #[.int .i64 1, .int .i64 0] 3))
  have B148 : Hid (Abx wo144 (v7.heap.size) (.bool false) (.slice (xa5) 2 (xc5)) (.slice (ya5) (N) (yc5))) := by rw [hwo144]; exact (n139.al (.cells #[.int .i64 1, .int .i64 0] 3))
  have L149 : Hid (MidC (v1.heap.size) (v2.heap.size) wo144 (xa1) ([(n : Int), (n : Int)]) (xc1)) := by rw [hwo144]; exact ((L132.out.al (by omega) (.cells #[.bool false, .slice (xa5) 2 (xc5), .slice (ya5) (N) (yc5)] 24)).al (by simp only [World.size_alloc]; omega) (.cells #[.int .i64 1, .int .i64 0] 3))
  have L150 : Hid (MidC (v1.heap.size) (v2.heap.size) wo144 (ya1) (clL n (clB (rdR n dz1) n)) (yc1)) := by rw [hwo144]; exact ((L133.out.al (by omega) (.cells #[.bool false, .slice (xa5) 2 (xc5), .slice (ya5) (N) (yc5)] 24)).al (by simp only [World.size_alloc]; omega) (.cells #[.int .i64 1, .int .i64 0] 3))
  have L151 : Hid (MidC (wo118.heap.size) (v7.heap.size) wo144 (xa5) ([(n : Int), (n : Int)]) (xc5)) := by rw [hwo144]; exact ((L137.out.al (by omega) (.cells #[.bool false, .slice (xa5) 2 (xc5), .slice (ya5) (N) (yc5)] 24)).al (by simp only [World.size_alloc]; omega) (.cells #[.int .i64 1, .int .i64 0] 3))
  have L152 : Hid (MidC (wo118.heap.size) (v7.heap.size) wo144 (ya5) (clL n (clB (rdR n (clL n (fun i j => rdR n dz1 j i))) n)) (yc5)) := by rw [hwo144]; exact ((L138.out.al (by omega) (.cells #[.bool false, .slice (xa5) 2 (xc5), .slice (ya5) (N) (yc5)] 24)).al (by simp only [World.size_alloc]; omega) (.cells #[.int .i64 1, .int .i64 0] 3))
  have L153 : Hid (MidC (v7.heap.size + 1) (v7.heap.size + 1 + 1) wo144 (some ⟨v7.heap.size + 1, 0, none⟩) ([1, 0]) (2)) := by rw [hwo144]; exact n140
  have hb154 : Hid (Below w.heap.size w wo144) := by rw [hwo144]; exact ((hb136.out.alloc (by omega) (.cells #[.bool false, .slice (xa5) 2 (xc5), .slice (ya5) (N) (yc5)] 24)).alloc (by simp only [World.size_alloc]; omega) (.cells #[.int .i64 1, .int .i64 0] 3))
  have zwo144 : w.heap.size ≤ wo144.heap.size := hb154.out.size
  clear hwo144 n139 n140 l141 l142 l143 hb136 B129 B130 L132 L133 L137 L138
  refine (flip24 HFl n N hn (clB (rdR n dz1) n) HN.out.1 (some ⟨v7.heap.size + 1, 0, none⟩) 2 (xa1) (xc1) (ya1) (yc1) (clL n (clB (rdR n dz1) n)) rfl _ (L153.out.is (by omega)).1 (L149.out.is (by omega)) (L150.out.is (by omega)).1).mono ?_
  rintro e v8 ⟨xa6, xc6, ya6, yc6, rfl, hX6, hY6, hB⟩
  have z155 : wo144.heap.size ≤ v8.heap.size := hB.size
  have B156 : Hid (Abx v8 (w.heap.size) (.bool false) (.slice (some ⟨b1, o1, none⟩) 2 sc1) (.slice da1 N dc1)) := B146.out.go hB
  have B157 : Hid (Abx v8 (v2.heap.size) (.bool false) (.slice (xa1) 2 (xc1)) (.slice (ya1) (N) (yc1))) := B147.out.go hB
  have B158 : Hid (Abx v8 (v7.heap.size) (.bool false) (.slice (xa5) 2 (xc5)) (.slice (ya5) (N) (yc5))) := B148.out.go hB
  have L159 : Hid (MidC (v1.heap.size) (v2.heap.size) v8 (xa1) ([(n : Int), (n : Int)]) (xc1)) := L149.out.go (by omega) hB
  have L160 : Hid (MidC (v1.heap.size) (v2.heap.size) v8 (ya1) (clL n (clB (rdR n dz1) n)) (yc1)) := L150.out.go (by omega) hB
  have L161 : Hid (MidC (wo118.heap.size) (v7.heap.size) v8 (xa5) ([(n : Int), (n : Int)]) (xc5)) := L151.out.go (by omega) hB
  have L162 : Hid (MidC (wo118.heap.size) (v7.heap.size) v8 (ya5) (clL n (clB (rdR n (clL n (fun i j => rdR n dz1 j i))) n)) (yc5)) := L152.out.go (by omega) hB
  have L163 : Hid (MidC (v7.heap.size + 1) (v7.heap.size + 1 + 1) v8 (some ⟨v7.heap.size + 1, 0, none⟩) ([1, 0]) (2)) := L153.out.go (by omega) hB
  have hb164 : Hid (Below w.heap.size w v8) := hb154.out.trans (hB.mono hb154.out.size)
  have L165 : Hid (MidC (wo144.heap.size) (v8.heap.size) v8 (xa6) ([(n : Int), (n : Int)]) (xc6)) := hX6.midc
  have L166 : Hid (MidC (wo144.heap.size) (v8.heap.size) v8 (ya6) (clL n (fun i j => clB (rdR n dz1) n j i)) (N)) := hY6.midc
  clear hB hb154 B146 B147 B148 L149 L150 L151 L152 L153 hX6 hY6
  clear L163
  have n167 := Abx.new v8 (.bool false) (.slice (xa6) 2 (xc6)) (.slice (ya6) N yc6)
  have l168 := ((B158.out.al (.cells #[.bool false, .slice (xa6) 2 (xc6), .slice (ya6) N yc6] 24))).c0
  have l169 := ((B158.out.al (.cells #[.bool false, .slice (xa6) 2 (xc6), .slice (ya6) N yc6] 24))).c1
  have l170 := ((B158.out.al (.cells #[.bool false, .slice (xa6) 2 (xc6), .slice (ya6) N yc6] 24))).c2
  have l171 := (n167).c0
  have l172 := (n167).c1
  have l173 := (n167).c2
  go_wp2_with fail
  obtain ⟨wo174, hwo174⟩ : ∃ wo174, wo174 = (v8.alloc (.cells #[.bool false, .slice (xa6) 2 (xc6), .slice (ya6) N yc6] 24)) := ⟨_, rfl⟩
  rw [← hwo174]
  have z175 : v8.heap.size + 1 ≤ wo174.heap.size := by rw [hwo174]; simp only [World.size_alloc]; omega
  have B176 : Hid (Abx wo174 (w.heap.size) (.bool false) (.slice (some ⟨b1, o1, none⟩) 2 sc1) (.slice da1 N dc1)) := by rw [hwo174]; exact (B156.out.al (.cells #[.bool false, .slice (xa6) 2 (xc6), .slice (ya6) N yc6] 24))
  have B177 : Hid (Abx wo174 (v2.heap.size) (.bool false) (.slice (xa1) 2 (xc1)) (.slice (ya1) (N) (yc1))) := by rw [hwo174]; exact (B157.out.al (.cells #[.bool false, .slice (xa6) 2 (xc6), .slice (ya6) N yc6] 24))
  have B178 : Hid (Abx wo174 (v7.heap.size) (.bool false) (.slice (xa5) 2 (xc5)) (.slice (ya5) (N) (yc5))) := by rw [hwo174]; exact (B158.out.al (.cells #[.bool false, .slice (xa6) 2 (xc6), .slice (ya6) N yc6] 24))
  have B179 : Hid (Abx wo174 (v8.heap.size) (.bool false) (.slice (xa6) 2 (xc6)) (.slice (ya6) N yc6)) := by rw [hwo174]; exact n167
  have L180 : Hid (MidC (v1.heap.size) (v2.heap.size) wo174 (xa1) ([(n : Int), (n : Int)]) (xc1)) := by rw [hwo174]; exact (L159.out.al (by omega) (.cells #[.bool false, .slice (xa6) 2 (xc6), .slice (ya6) N yc6] 24))
  have L181 : Hid (MidC (v1.heap.size) (v2.heap.size) wo174 (ya1) (clL n (clB (rdR n dz1) n)) (yc1)) := by rw [hwo174]; exact (L160.out.al (by omega) (.cells #[.bool false, .slice (xa6) 2 (xc6), .slice (ya6) N yc6] 24))
  have L182 : Hid (MidC (wo118.heap.size) (v7.heap.size) wo174 (xa5) ([(n : Int), (n : Int)]) (xc5)) := by rw [hwo174]; exact (L161.out.al (by omega) (.cells #[.bool false, .slice (xa6) 2 (xc6), .slice (ya6) N yc6] 24))
  have L183 : Hid (MidC (wo118.heap.size) (v7.heap.size) wo174 (ya5) (clL n (clB (rdR n (clL n (fun i j => rdR n dz1 j i))) n)) (yc5)) := by rw [hwo174]; exact (L162.out.al (by omega) (.cells #[.bool false, .slice (xa6) 2 (xc6), .slice (ya6) N yc6] 24))
  have L184 : Hid (MidC (wo144.heap.size) (v8.heap.size) wo174 (xa6) ([(n : Int), (n : Int)]) (xc6)) := by rw [hwo174]; exact (L165.out.al (by omega) (.cells #[.bool false, .slice (xa6) 2 (xc6), .slice (ya6) N yc6] 24))
  have L185 : Hid (MidC (wo144.heap.size) (v8.heap.size) wo174 (ya6) (clL n (fun i j => clB (rdR n dz1) n j i)) (N)) := by rw [hwo174]; exact (L166.out.al (by omega) (.cells #[.bool false, .slice (xa6) 2 (xc6), .slice (ya6) N yc6] 24))
  have hb186 : Hid (Below w.heap.size w wo174) := by rw [hwo174]; exact (hb164.out.alloc (by omega) (.cells #[.bool false, .slice (xa6) 2 (xc6), .slice (ya6) N yc6] 24))
  have zwo174 : w.heap.size ≤ wo174.heap.size := hb186.out.size
  clear hwo174 n167 l168 l169 l170 l171 l172 l173 hb164 B156 B157 B158 L159 L160 L161 L162 L165 L166
  refine (alike15 n N (xa5) (xc5) (ya5) (yc5) (clL n (clB (rdR n (clL n (fun i j => rdR n dz1 j i))) n)) (xa6) (xc6) (ya6) (yc6) (clL n (fun i j => clB (rdR n dz1) n j i)) (by rw [clL_len, HN.out.1]) N576 (st_turn (rdR n dz1) n).symm _ (L182.out.is (by omega)) (L183.out.is (by omega)).1 (L184.out.is (by omega)) (L185.out.is (by omega)).1).mono ?_
  rintro e v9 ⟨rfl, hB⟩
  have z187 : wo174.heap.size ≤ v9.heap.size := hB.size
  have B188 : Hid (Abx v9 (w.heap.size) (.bool false) (.slice (some ⟨b1, o1, none⟩) 2 sc1) (.slice da1 N dc1)) := B176.out.go hB
  have B189 : Hid (Abx v9 (v2.heap.size) (.bool false) (.slice (xa1) 2 (xc1)) (.slice (ya1) (N) (yc1))) := B177.out.go hB
  have B190 : Hid (Abx v9 (v7.heap.size) (.bool false) (.slice (xa5) 2 (xc5)) (.slice (ya5) (N) (yc5))) := B178.out.go hB
  have B191 : Hid (Abx v9 (v8.heap.size) (.bool false) (.slice (xa6) 2 (xc6)) (.slice (ya6) N yc6)) := B179.out.go hB
  have L192 : Hid (MidC (v1.heap.size) (v2.heap.size) v9 (xa1) ([(n : Int), (n : Int)]) (xc1)) := L180.out.go (by omega) hB
  have L193 : Hid (MidC (v1.heap.size) (v2.heap.size) v9 (ya1) (clL n (clB (rdR n dz1) n)) (yc1)) := L181.out.go (by omega) hB
  have L194 : Hid (MidC (wo118.heap.size) (v7.heap.size) v9 (xa5) ([(n : Int), (n : Int)]) (xc5)) := L182.out.go (by omega) hB
  have L195 : Hid (MidC (wo118.heap.size) (v7.heap.size) v9 (ya5) (clL n (clB (rdR n (clL n (fun i j => rdR n dz1 j i))) n)) (yc5)) := L183.out.go (by omega) hB
  have L196 : Hid (MidC (wo144.heap.size) (v8.heap.size) v9 (xa6) ([(n : Int), (n : Int)]) (xc6)) := L184.out.go (by omega) hB
  have L197 : Hid (MidC (wo144.heap.size) (v8.heap.size) v9 (ya6) (clL n (fun i j => clB (rdR n dz1) n j i)) (N)) := L185.out.go (by omega) hB
  have hb198 : Hid (Below w.heap.size w v9) := hb186.out.trans (hB.mono hb186.out.size)
  clear hB hb186 B176 B177 B178 B179 L180 L181 L182 L183 L184 L185
  go_wp2_with fail
  go_ret
  exact ⟨rfl, hb198.out⟩
theorem rstep_walk (HNi : CNi) (H2 : C2d) (HFl : CFl) (c1 : Bool) (sa1 : Option Addr) (sc1 : Nat) (sz1 : List Int) (da1 : Option Addr) (dc1 : Nat) (dz1 : List Int) (w : World) (w8 : IsArrD w sa1 sz1 sc1 da1 dz1 dc1) :
    Calls Try.prog 4 #[.agg #[.bool c1, .slice sa1 sz1.length sc1, .slice da1 dz1.length dc1]] w fun e w' => e = .returned (.bool true) ∧ Below w.heap.size w w' := by
  by_cases h1 : rlE c1 sz1 dz1 = 0
  · obtain ⟨n, hn, rfl, hl1, rfl, hk1⟩ := rl_is h1
    obtain ⟨b1, o1, rfl⟩ := opn14 w8.2.2.1
    exact step_ok HNi H2 HFl n hn b1 o1 sc1 da1 dc1 dz1 hl1 w ⟨w8.2.2.1, w8.2.2.2.1, w8.2.2.2.2.2⟩ hk1
  · exact step_no HNi H2 HFl c1 sa1 sc1 sz1 da1 dc1 dz1 w w8 h1
end Go.Proofs.Ytgaelbgeoobgiaa
