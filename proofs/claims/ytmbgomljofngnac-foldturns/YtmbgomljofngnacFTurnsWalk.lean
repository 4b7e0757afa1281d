/-
  The walk of the statement FoldTurns, given what the program tells.
-/
import Derived.Test.YtmbgomljofngnacFldo
import Derived.Test.YtmbgomljofngnacFldt
import Derived.Test.YtmbgomljofngnacFldl
import Derived.Test.YtmbgomljofngnacMidc
import Derived.Test.YtmbgomljofngnacSarr
namespace Go.Proofs.Ytmbgomljofngnac
open Go.RowKit
set_option linter.unusedVariables false

set_option maxRecDepth 100000 in
set_option maxHeartbeats 8000000 in
theorem turns_no (HRd : CRd) (HRv : CRvB) (HRt : CRtB) (f n x : Int) (hf : In64 f) (hn : In64 n) (hx : In64 x) (c1 : Bool) (sa1 : Option Addr) (sc1 : Nat) (sz1 : List Int) (da1 : Option Addr) (dc1 : Nat) (dz1 : List Int) (w : World) (w8 : IsArrD w sa1 sz1 sc1 da1 dz1 dc1) (F1 : Hid (rdE f x c1 sz1 dz1 ≠ 0)) :
    Calls Try.prog 3 #[.int .i64 f, .int .i64 n, .int .i64 x, .agg #[.bool c1, .slice sa1 sz1.length sc1, .slice da1 dz1.length dc1]] w fun e w' => e = .returned (.bool true) ∧ Below w.heap.size w w' := by
  obtain ⟨E, hE⟩ : ∃ E, E = rdE f x c1 sz1 dz1 := ⟨_, rfl⟩
  have HE : Hid (rdE f x c1 sz1 dz1 = E ∧ E ≠ 0) := ⟨hE.symm, by rw [hE]; exact F1.out⟩
  clear hE
  obtain ⟨x11, x12, x3, x4, s64, T⟩ := w8
  have HI1 : Hid (IsC w.heap.size w sa1 sz1 sc1 ∧ IsC w.heap.size w da1 dz1 dc1 ∧ (∀ j, In64 (nth sz1 j)) ∧ ∀ j, In64 (nth dz1 j)) := ⟨x3, x4, s64, T⟩
  clear x3 x4 T s64
  have n1 := Abx.new w (.bool c1) (.slice sa1 sz1.length sc1) (.slice da1 dz1.length dc1)
  have n2 := lit_mid (w.alloc (.cells #[.bool c1, .slice sa1 sz1.length sc1, .slice da1 dz1.length dc1] 25)) 3 [2, 7, 4] 3 rfl
  simp only [World.size_alloc, List.map_cons, List.map_nil] at n2
  go_enter Try.func3, Try.ntmps3
  go_wp2_with fail
  obtain ⟨wo3, hwo3⟩ : ∃ wo3, wo3 = ((w.alloc (.cells #[.bool c1, .slice sa1 sz1.length sc1, .slice da1 dz1.length dc1] 25)).alloc (.cells #[.int .i64 2, .int .i64 7, .int .i64 4] 3)) := ⟨_, rfl⟩
  rw [← hwo3]
  have z4 : w.heap.size + 1 + 1 ≤ wo3.heap.size := by rw [hwo3]; simp only [World.size_alloc]; omega
  have B5 : Hid (Abx wo3 (w.heap.size) (.bool c1) (.slice sa1 sz1.length sc1) (.slice da1 dz1.length dc1)) := by rw [hwo3]; exact (n1.al (.cells #[.int .i64 2, .int .i64 7, .int .i64 4] 3))
  have L6 : Hid (MidC (w.heap.size + 1) (w.heap.size + 1 + 1) wo3 (some ⟨w.heap.size + 1, 0, none⟩) ([2, 7, 4]) (3)) := by rw [hwo3]; exact n2
  have hb7 : Hid (Below w.heap.size w wo3) := by rw [hwo3]; exact (((Below.refl w.heap.size w).alloc (by omega) (.cells #[.bool c1, .slice sa1 sz1.length sc1, .slice da1 dz1.length dc1] 25)).alloc (by simp only [World.size_alloc]; omega) (.cells #[.int .i64 2, .int .i64 7, .int .i64 4] 3))
  have zwo3 : w.heap.size ≤ wo3.heap.size := hb7.out.size
  clear hwo3 n1 n2
  refine (vec_c (some ⟨w.heap.size + 1, 0, none⟩) 3 [2, 7, 4] (by simp) _ (L6.out.is (by omega)).1).mono ?_
  rintro e v1 ⟨vap, vcp, gap, gcp, rfl, hVp, hGp, hB⟩
  have z8 : wo3.heap.size ≤ v1.heap.size := hB.size
  have B9 : Hid (Abx v1 (w.heap.size) (.bool c1) (.slice sa1 sz1.length sc1) (.slice da1 dz1.length dc1)) := B5.out.go hB
  have L10 : Hid (MidC (w.heap.size + 1) (w.heap.size + 1 + 1) v1 (some ⟨w.heap.size + 1, 0, none⟩) ([2, 7, 4]) (3)) := L6.out.go (by omega) hB
  have hb11 : Hid (Below w.heap.size w v1) := hb7.out.trans (hB.mono hb7.out.size)
  have L12 : Hid (MidC (wo3.heap.size) (v1.heap.size) v1 (vap) ([(3 : Int)]) (vcp)) := hVp.midc
  have L13 : Hid (MidC (wo3.heap.size) (v1.heap.size) v1 (gap) ([2, 7, 4]) (gcp)) := hGp.midc
  clear hB hb7 B5 L6 hVp hGp
  clear L10
  go_wp2_with fail
  refine (rdw_ok 6 0 false vap vcp [(3 : Int)] 1 rfl gap gcp [2, 7, 4] 3 rfl _ (by unfold In64; decide) (by unfold In64; decide) (by decide) (by decide) (L12.out.is (by omega)) (L13.out.is (by omega)).1 (lit12 (by decide)) [] [7] HRd (by show rdE 6 0 false [(3 : Int)] [2, 7, 4] = 0 ∧ xout (0 : Int).toNat [(3 : Int)] = [] ∧ rdD 6 [(3 : Int)] [2, 7, 4] (0 : Int).toNat = [7]; decide +kernel)).mono ?_
  rintro e v2 ⟨f1, g1, f2, g2, rfl, hX0, hY0, hB⟩
  have z14 : v1.heap.size ≤ v2.heap.size := hB.size
  have B15 : Hid (Abx v2 (w.heap.size) (.bool c1) (.slice sa1 sz1.length sc1) (.slice da1 dz1.length dc1)) := B9.out.go hB
  have L16 : Hid (MidC (wo3.heap.size) (v1.heap.size) v2 (vap) ([(3 : Int)]) (vcp)) := L12.out.go (by omega) hB
  have L17 : Hid (MidC (wo3.heap.size) (v1.heap.size) v2 (gap) ([2, 7, 4]) (gcp)) := L13.out.go (by omega) hB
  have hb18 : Hid (Below w.heap.size w v2) := hb11.out.trans (hB.mono hb11.out.size)
  have L19 : Hid (MidC (v1.heap.size) (v2.heap.size) v2 (f1) ([]) (g1)) := hX0.midc
  have L20 : Hid (MidC (v1.heap.size) (v2.heap.size) v2 (f2) ([7]) (g2)) := hY0.midc
  clear hB hb11 B9 L12 L13 hX0 hY0
  clear L16 L17
  obtain ⟨b21, ob21, rfl, _, _, _, _⟩ := L20.out.at (i := 0) (by decide)
  have n22 := Abx.new v2 (.bool false) (.slice f1 0 g1) (.slice (some ⟨b21, ob21, none⟩) 1 g2)
  have l23 := (n22).c0
  have l24 := (n22).c1
  have l25 := (n22).c2
  obtain ⟨_, _, l26e, _, _, l26, _⟩ := ((L20.out.al (by omega) (.cells #[.bool false, .slice f1 0 g1, .slice (some ⟨b21, ob21, none⟩) 1 g2] 25))).at (i := 0) (by decide)
  cases l26e
  try simp only [Nat.add_zero] at l26
  have l27 := ((B15.out.al (.cells #[.bool false, .slice f1 0 g1, .slice (some ⟨b21, ob21, none⟩) 1 g2] 25))).c0
  have l28 := ((B15.out.al (.cells #[.bool false, .slice f1 0 g1, .slice (some ⟨b21, ob21, none⟩) 1 g2] 25))).c1
  have l29 := ((B15.out.al (.cells #[.bool false, .slice f1 0 g1, .slice (some ⟨b21, ob21, none⟩) 1 g2] 25))).c2
  go_wp2_with fail
  obtain ⟨wo30, hwo30⟩ : ∃ wo30, wo30 = (v2.alloc (.cells #[.bool false, .slice f1 0 g1, .slice (some ⟨b21, ob21, none⟩) 1 g2] 25)) := ⟨_, rfl⟩
  rw [← hwo30]
  have z31 : v2.heap.size + 1 ≤ wo30.heap.size := by rw [hwo30]; simp only [World.size_alloc]; omega
  have B32 : Hid (Abx wo30 (w.heap.size) (.bool c1) (.slice sa1 sz1.length sc1) (.slice da1 dz1.length dc1)) := by rw [hwo30]; exact (B15.out.al (.cells #[.bool false, .slice f1 0 g1, .slice (some ⟨b21, ob21, none⟩) 1 g2] 25))
  have B33 : Hid (Abx wo30 (v2.heap.size) (.bool false) (.slice f1 0 g1) (.slice (some ⟨b21, ob21, none⟩) 1 g2)) := by rw [hwo30]; exact n22
  have L34 : Hid (MidC (v1.heap.size) (v2.heap.size) wo30 (f1) ([]) (g1)) := by rw [hwo30]; exact (L19.out.al (by omega) (.cells #[.bool false, .slice f1 0 g1, .slice (some ⟨b21, ob21, none⟩) 1 g2] 25))
  have L35 : Hid (MidC (v1.heap.size) (v2.heap.size) wo30 (some ⟨b21, ob21, none⟩) ([7]) (g2)) := by rw [hwo30]; exact (L20.out.al (by omega) (.cells #[.bool false, .slice f1 0 g1, .slice (some ⟨b21, ob21, none⟩) 1 g2] 25))
  have hb36 : Hid (Below w.heap.size w wo30) := by rw [hwo30]; exact (hb18.out.alloc (by omega) (.cells #[.bool false, .slice f1 0 g1, .slice (some ⟨b21, ob21, none⟩) 1 g2] 25))
  have zwo30 : w.heap.size ≤ wo30.heap.size := hb36.out.size
  clear hwo30 n22 l23 l24 l25 l26 l27 l28 l29 hb18 B15 L19 L20
  clear L34 L35 B33
  refine (rdw_no f x c1 sa1 sc1 sz1 sz1.length rfl da1 dc1 dz1 dz1.length rfl _ hf hx x11 x12 ((HI1.out.1.below hb36.out).mono hb36.out.size) ((HI1.out.2.1.1.below hb36.out).mono hb36.out.size) HI1.out.2.2.2 HRd E HE.out).mono ?_
  rintro e v3 ⟨xa1, xc1, ya1, yc1, rfl, hB⟩
  have z37 : wo30.heap.size ≤ v3.heap.size := hB.size
  have B38 : Hid (Abx v3 (w.heap.size) (.bool c1) (.slice sa1 sz1.length sc1) (.slice da1 dz1.length dc1)) := B32.out.go hB
  have hb39 : Hid (Below w.heap.size w v3) := hb36.out.trans (hB.mono hb36.out.size)
  clear hB hb36 B32
  have n40 := Abx.new v3 (.bool false) (.slice xa1 0 xc1) (.slice ya1 0 yc1)
  go_wp2_with fail
  obtain ⟨wo41, hwo41⟩ : ∃ wo41, wo41 = (v3.alloc (.cells #[.bool false, .slice xa1 0 xc1, .slice ya1 0 yc1] 25)) := ⟨_, rfl⟩
  rw [← hwo41]
  have z42 : v3.heap.size + 1 ≤ wo41.heap.size := by rw [hwo41]; simp only [World.size_alloc]; omega
  have B43 : Hid (Abx wo41 (w.heap.size) (.bool c1) (.slice sa1 sz1.length sc1) (.slice da1 dz1.length dc1)) := by rw [hwo41]; exact (B38.out.al (.cells #[.bool false, .slice xa1 0 xc1, .slice ya1 0 yc1] 25))
  have B44 : Hid (Abx wo41 (v3.heap.size) (.bool false) (.slice xa1 0 xc1) (.slice ya1 0 yc1)) := by rw [hwo41]; exact n40
  have hb45 : Hid (Below w.heap.size w wo41) := by rw [hwo41]; exact (hb39.out.alloc (by omega) (.cells #[.bool false, .slice xa1 0 xc1, .slice ya1 0 yc1] 25))
  have zwo41 : w.heap.size ≤ wo41.heap.size := hb45.out.size
  clear hwo41 n40 hb39 B38
  go_ret
  exact ⟨rfl, hb45.out⟩
set_option maxRecDepth 100000 in
set_option maxHeartbeats 8000000 in
theorem turns_other (HRd : CRd) (HRv : CRvB) (HRt : CRtB) (f n x : Int) (hf : In64 f) (hn : In64 n) (hx : In64 x) (c1 : Bool) (sa1 : Option Addr) (sc1 : Nat) (sz1 : List Int) (da1 : Option Addr) (dc1 : Nat) (dz1 : List Int) (w : World) (w8 : IsArrD w sa1 sz1 sc1 da1 dz1 dc1) (F1 : Hid (rdE f x c1 sz1 dz1 = 0)) (F2 : Hid (¬ Mon f)) :
    Calls Try.prog 3 #[.int .i64 f, .int .i64 n, .int .i64 x, .agg #[.bool c1, .slice sa1 sz1.length sc1, .slice da1 dz1.length dc1]] w fun e w' => e = .returned (.bool true) ∧ Below w.heap.size w w' := by
  obtain ⟨S, hS⟩ : ∃ S, S = xout x.toNat sz1 := ⟨_, rfl⟩
  obtain ⟨D, hD⟩ : ∃ D, D = rdD f sz1 dz1 x.toNat := ⟨_, rfl⟩
  have HR1 : Hid (rdE f x c1 sz1 dz1 = 0 ∧ xout x.toNat sz1 = S ∧ rdD f sz1 dz1 x.toNat = D) := ⟨F1.out, hS.symm, hD.symm⟩
  have lS : S.length ≤ 4096 := by rw [hS]; exact (errS (rdE_zero.1 F1.out).2.2.1).1
  have lD : D.length ≤ 4096 := by rw [hD]; unfold rdD; rw [TA_length]; exact (errS (rdE_zero.1 F1.out).2.2.1).2
  clear hS hD
  obtain ⟨x11, x12, x3, x4, s64, T⟩ := w8
  have HI1 : Hid (IsC w.heap.size w sa1 sz1 sc1 ∧ IsC w.heap.size w da1 dz1 dc1 ∧ (∀ j, In64 (nth sz1 j)) ∧ ∀ j, In64 (nth dz1 j)) := ⟨x3, x4, s64, T⟩
  clear x3 x4 T s64
  have n1 := Abx.new w (.bool c1) (.slice sa1 sz1.length sc1) (.slice da1 dz1.length dc1)
  have n2 := lit_mid (w.alloc (.cells #[.bool c1, .slice sa1 sz1.length sc1, .slice da1 dz1.length dc1] 25)) 3 [2, 7, 4] 3 rfl
  simp only [World.size_alloc, List.map_cons, List.map_nil] at n2
  go_enter Try.func3, Try.ntmps3
  go_wp2_with fail
  obtain ⟨wo3, hwo3⟩ : ∃ wo3, wo3 = ((w.alloc (.cells #[.bool c1, .slice sa1 sz1.length sc1, .slice da1 dz1.length dc1] 25)).alloc (.cells #[.int .i64 2, .int .i64 7, .int .i64 4] 3)) := ⟨_, rfl⟩
  rw [← hwo3]
  have z4 : w.heap.size + 1 + 1 ≤ wo3.heap.size := by rw [hwo3]; simp only [World.size_alloc]; omega
  have B5 : Hid (Abx wo3 (w.heap.size) (.bool c1) (.slice sa1 sz1.length sc1) (.slice da1 dz1.length dc1)) := by rw [hwo3]; exact (n1.al (.cells #[.int .i64 2, .int .i64 7, .int .i64 4] 3))
  have L6 : Hid (MidC (w.heap.size + 1) (w.heap.size + 1 + 1) wo3 (some ⟨w.heap.size + 1, 0, none⟩) ([2, 7, 4]) (3)) := by rw [hwo3]; exact n2
  have hb7 : Hid (Below w.heap.size w wo3) := by rw [hwo3]; exact (((Below.refl w.heap.size w).alloc (by omega) (.cells #[.bool c1, .slice sa1 sz1.length sc1, .slice da1 dz1.length dc1] 25)).alloc (by simp only [World.size_alloc]; omega) (.cells #[.int .i64 2, .int .i64 7, .int .i64 4] 3))
  have zwo3 : w.heap.size ≤ wo3.heap.size := hb7.out.size
  clear hwo3 n1 n2
  refine (vec_c (some ⟨w.heap.size + 1, 0, none⟩) 3 [2, 7, 4] (by simp) _ (L6.out.is (by omega)).1).mono ?_
  rintro e v1 ⟨vap, vcp, gap, gcp, rfl, hVp, hGp, hB⟩
  have z8 : wo3.heap.size ≤ v1.heap.size := hB.size
  have B9 : Hid (Abx v1 (w.heap.size) (.bool c1) (.slice sa1 sz1.length sc1) (.slice da1 dz1.length dc1)) := B5.out.go hB
  have L10 : Hid (MidC (w.heap.size + 1) (w.heap.size + 1 + 1) v1 (some ⟨w.heap.size + 1, 0, none⟩) ([2, 7, 4]) (3)) := L6.out.go (by omega) hB
  have hb11 : Hid (Below w.heap.size w v1) := hb7.out.trans (hB.mono hb7.out.size)
  have L12 : Hid (MidC (wo3.heap.size) (v1.heap.size) v1 (vap) ([(3 : Int)]) (vcp)) := hVp.midc
  have L13 : Hid (MidC (wo3.heap.size) (v1.heap.size) v1 (gap) ([2, 7, 4]) (gcp)) := hGp.midc
  clear hB hb7 B5 L6 hVp hGp
  clear L10
  go_wp2_with fail
  refine (rdw_ok 6 0 false vap vcp [(3 : Int)] 1 rfl gap gcp [2, 7, 4] 3 rfl _ (by unfold In64; decide) (by unfold In64; decide) (by decide) (by decide) (L12.out.is (by omega)) (L13.out.is (by omega)).1 (lit12 (by decide)) [] [7] HRd (by show rdE 6 0 false [(3 : Int)] [2, 7, 4] = 0 ∧ xout (0 : Int).toNat [(3 : Int)] = [] ∧ rdD 6 [(3 : Int)] [2, 7, 4] (0 : Int).toNat = [7]; decide +kernel)).mono ?_
  rintro e v2 ⟨f1, g1, f2, g2, rfl, hX0, hY0, hB⟩
  have z14 : v1.heap.size ≤ v2.heap.size := hB.size
  have B15 : Hid (Abx v2 (w.heap.size) (.bool c1) (.slice sa1 sz1.length sc1) (.slice da1 dz1.length dc1)) := B9.out.go hB
  have L16 : Hid (MidC (wo3.heap.size) (v1.heap.size) v2 (vap) ([(3 : Int)]) (vcp)) := L12.out.go (by omega) hB
  have L17 : Hid (MidC (wo3.heap.size) (v1.heap.size) v2 (gap) ([2, 7, 4]) (gcp)) := L13.out.go (by omega) hB
  have hb18 : Hid (Below w.heap.size w v2) := hb11.out.trans (hB.mono hb11.out.size)
  have L19 : Hid (MidC (v1.heap.size) (v2.heap.size) v2 (f1) ([]) (g1)) := hX0.midc
  have L20 : Hid (MidC (v1.heap.size) (v2.heap.size) v2 (f2) ([7]) (g2)) := hY0.midc
  clear hB hb11 B9 L12 L13 hX0 hY0
  clear L16 L17
  obtain ⟨b21, ob21, rfl, _, _, _, _⟩ := L20.out.at (i := 0) (by decide)
  have n22 := Abx.new v2 (.bool false) (.slice f1 0 g1) (.slice (some ⟨b21, ob21, none⟩) 1 g2)
  have l23 := (n22).c0
  have l24 := (n22).c1
  have l25 := (n22).c2
  obtain ⟨_, _, l26e, _, _, l26, _⟩ := ((L20.out.al (by omega) (.cells #[.bool false, .slice f1 0 g1, .slice (some ⟨b21, ob21, none⟩) 1 g2] 25))).at (i := 0) (by decide)
  cases l26e
  try simp only [Nat.add_zero] at l26
  have l27 := ((B15.out.al (.cells #[.bool false, .slice f1 0 g1, .slice (some ⟨b21, ob21, none⟩) 1 g2] 25))).c0
  have l28 := ((B15.out.al (.cells #[.bool false, .slice f1 0 g1, .slice (some ⟨b21, ob21, none⟩) 1 g2] 25))).c1
  have l29 := ((B15.out.al (.cells #[.bool false, .slice f1 0 g1, .slice (some ⟨b21, ob21, none⟩) 1 g2] 25))).c2
  go_wp2_with fail
  obtain ⟨wo30, hwo30⟩ : ∃ wo30, wo30 = (v2.alloc (.cells #[.bool false, .slice f1 0 g1, .slice (some ⟨b21, ob21, none⟩) 1 g2] 25)) := ⟨_, rfl⟩
  rw [← hwo30]
  have z31 : v2.heap.size + 1 ≤ wo30.heap.size := by rw [hwo30]; simp only [World.size_alloc]; omega
  have B32 : Hid (Abx wo30 (w.heap.size) (.bool c1) (.slice sa1 sz1.length sc1) (.slice da1 dz1.length dc1)) := by rw [hwo30]; exact (B15.out.al (.cells #[.bool false, .slice f1 0 g1, .slice (some ⟨b21, ob21, none⟩) 1 g2] 25))
  have B33 : Hid (Abx wo30 (v2.heap.size) (.bool false) (.slice f1 0 g1) (.slice (some ⟨b21, ob21, none⟩) 1 g2)) := by rw [hwo30]; exact n22
  have L34 : Hid (MidC (v1.heap.size) (v2.heap.size) wo30 (f1) ([]) (g1)) := by rw [hwo30]; exact (L19.out.al (by omega) (.cells #[.bool false, .slice f1 0 g1, .slice (some ⟨b21, ob21, none⟩) 1 g2] 25))
  have L35 : Hid (MidC (v1.heap.size) (v2.heap.size) wo30 (some ⟨b21, ob21, none⟩) ([7]) (g2)) := by rw [hwo30]; exact (L20.out.al (by omega) (.cells #[.bool false, .slice f1 0 g1, .slice (some ⟨b21, ob21, none⟩) 1 g2] 25))
  have hb36 : Hid (Below w.heap.size w wo30) := by rw [hwo30]; exact (hb18.out.alloc (by omega) (.cells #[.bool false, .slice f1 0 g1, .slice (some ⟨b21, ob21, none⟩) 1 g2] 25))
  have zwo30 : w.heap.size ≤ wo30.heap.size := hb36.out.size
  clear hwo30 n22 l23 l24 l25 l26 l27 l28 l29 hb18 B15 L19 L20
  clear L34 L35 B33
  refine (rdw_ok f x c1 sa1 sc1 sz1 sz1.length rfl da1 dc1 dz1 dz1.length rfl _ hf hx x11 x12 ((HI1.out.1.below hb36.out).mono hb36.out.size) ((HI1.out.2.1.1.below hb36.out).mono hb36.out.size) HI1.out.2.2.2 S D HRd HR1.out).mono ?_
  rintro e v3 ⟨xa1, xc1, ya1, yc1, rfl, hX1, hY1, hB⟩
  have z37 : wo30.heap.size ≤ v3.heap.size := hB.size
  have B38 : Hid (Abx v3 (w.heap.size) (.bool c1) (.slice sa1 sz1.length sc1) (.slice da1 dz1.length dc1)) := B32.out.go hB
  have hb39 : Hid (Below w.heap.size w v3) := hb36.out.trans (hB.mono hb36.out.size)
  have L40 : Hid (MidC (wo30.heap.size) (v3.heap.size) v3 (xa1) (S) (xc1)) := hX1.midc
  have L41 : Hid (MidC (wo30.heap.size) (v3.heap.size) v3 (ya1) (D) (yc1)) := hY1.midc
  clear hB hb36 B32 hX1 hY1
  have n42 := Abx.new v3 (.bool false) (.slice xa1 S.length xc1) (.slice ya1 D.length yc1)
  go_wp2_with fail
  obtain ⟨wo43, hwo43⟩ : ∃ wo43, wo43 = (v3.alloc (.cells #[.bool false, .slice xa1 S.length xc1, .slice ya1 D.length yc1] 25)) := ⟨_, rfl⟩
  rw [← hwo43]
  have z44 : v3.heap.size + 1 ≤ wo43.heap.size := by rw [hwo43]; simp only [World.size_alloc]; omega
  have B45 : Hid (Abx wo43 (w.heap.size) (.bool c1) (.slice sa1 sz1.length sc1) (.slice da1 dz1.length dc1)) := by rw [hwo43]; exact (B38.out.al (.cells #[.bool false, .slice xa1 S.length xc1, .slice ya1 D.length yc1] 25))
  have B46 : Hid (Abx wo43 (v3.heap.size) (.bool false) (.slice xa1 S.length xc1) (.slice ya1 D.length yc1)) := by rw [hwo43]; exact n42
  have L47 : Hid (MidC (wo30.heap.size) (v3.heap.size) wo43 (xa1) (S) (xc1)) := by rw [hwo43]; exact (L40.out.al (by omega) (.cells #[.bool false, .slice xa1 S.length xc1, .slice ya1 D.length yc1] 25))
  have L48 : Hid (MidC (wo30.heap.size) (v3.heap.size) wo43 (ya1) (D) (yc1)) := by rw [hwo43]; exact (L41.out.al (by omega) (.cells #[.bool false, .slice xa1 S.length xc1, .slice ya1 D.length yc1] 25))
  have hb49 : Hid (Below w.heap.size w wo43) := by rw [hwo43]; exact (hb39.out.alloc (by omega) (.cells #[.bool false, .slice xa1 S.length xc1, .slice ya1 D.length yc1] 25))
  have zwo43 : w.heap.size ≤ wo43.heap.size := hb49.out.size
  clear hwo43 n42 hb39 B38 L40 L41
  refine (monoid_no f F2.out _).mono ?_
  rintro e v4 ⟨rfl, hB⟩
  have z50 : wo43.heap.size ≤ v4.heap.size := hB.size
  have B51 : Hid (Abx v4 (w.heap.size) (.bool c1) (.slice sa1 sz1.length sc1) (.slice da1 dz1.length dc1)) := B45.out.go hB
  have B52 : Hid (Abx v4 (v3.heap.size) (.bool false) (.slice xa1 S.length xc1) (.slice ya1 D.length yc1)) := B46.out.go hB
  have L53 : Hid (MidC (wo30.heap.size) (v3.heap.size) v4 (xa1) (S) (xc1)) := L47.out.go (by omega) hB
  have L54 : Hid (MidC (wo30.heap.size) (v3.heap.size) v4 (ya1) (D) (yc1)) := L48.out.go (by omega) hB
  have hb55 : Hid (Below w.heap.size w v4) := hb49.out.trans (hB.mono hb49.out.size)
  clear hB hb49 B45 B46 L47 L48
  go_wp2_with fail
  go_ret
  exact ⟨rfl, hb55.out⟩
set_option maxRecDepth 100000 in
set_option maxHeartbeats 8000000 in
theorem turns_ok (HRd : CRd) (HRv : CRvB) (HRt : CRtB) (f n x : Int) (hf : In64 f) (hn : In64 n) (hx : In64 x) (c1 : Bool) (sa1 : Option Addr) (sc1 : Nat) (sz1 : List Int) (da1 : Option Addr) (dc1 : Nat) (dz1 : List Int) (w : World) (w8 : IsArrD w sa1 sz1 sc1 da1 dz1 dc1) (F1 : Hid (rdE f x c1 sz1 dz1 = 0)) (F2 : Hid (Mon f)) (hc : c1 = false) :
    Calls Try.prog 3 #[.int .i64 f, .int .i64 n, .int .i64 x, .agg #[.bool c1, .slice sa1 sz1.length sc1, .slice da1 dz1.length dc1]] w fun e w' => e = .returned (.bool true) ∧ Below w.heap.size w w' := by
  subst hc
  obtain ⟨S, hS⟩ : ∃ S, S = xout x.toNat sz1 := ⟨_, rfl⟩
  obtain ⟨D, hD⟩ : ∃ D, D = rdD f sz1 dz1 x.toNat := ⟨_, rfl⟩
  have HR1 : Hid (rdE f x false sz1 dz1 = 0 ∧ xout x.toNat sz1 = S ∧ rdD f sz1 dz1 x.toNat = D) := ⟨F1.out, hS.symm, hD.symm⟩
  have lS : S.length ≤ 4096 := by rw [hS]; exact (errS (rdE_zero.1 F1.out).2.2.1).1
  have lD : D.length ≤ 4096 := by rw [hD]; unfold rdD; rw [TA_length]; exact (errS (rdE_zero.1 F1.out).2.2.1).2
  have T1 := w8.2.2.2.2.2
  have z1 := rdE_zero.1 F1.out
  have z2 := lnE_zero.1 z1.1
  have z3 := flawE_zero z2.2.1
  have hx1 : x.toNat < sz1.length := z2.2.2.1.2
  have hax : axE x false sz1 dz1 = 0 := axE_zero.2 ⟨z2.2.1, z2.2.2.1⟩
  obtain ⟨Y, hY⟩ : ∃ Y, Y = GA sz1 dz1 sz1 (revT sz1 x.toNat) := ⟨_, rfl⟩
  obtain ⟨Z, hZ⟩ : ∃ Z, Z = GA sz1 dz1 sz1 (rotT sz1 n x.toNat) := ⟨_, rfl⟩
  have fY : flawE false sz1 Y = 0 := by rw [hY]; exact GA_flaw z2.2.1 z3.1 fun t ht => revT_in ht hx1
  have fZ : flawE false sz1 Z = 0 := by rw [hZ]; exact GA_flaw z2.2.1 z3.1 fun t ht => rotT_in ht hx1
  have TY : ∀ j, In64 (nth Y j) := by rw [hY]; exact ga_64 T1
  have TZ : ∀ j, In64 (nth Z j) := by rw [hZ]; exact ga_64 T1
  have HY : Hid (axE x false sz1 dz1 = 0 ∧ GA sz1 dz1 sz1 (revT sz1 x.toNat) = Y) := ⟨hax, hY.symm⟩
  have HZ : Hid (axE x false sz1 dz1 = 0 ∧ GA sz1 dz1 sz1 (rotT sz1 n x.toNat) = Z) := ⟨hax, hZ.symm⟩
  have HRY : Hid (rdE f x false sz1 Y = 0 ∧ xout x.toNat sz1 = S ∧ rdD f sz1 Y x.toNat = D) := ⟨rd_again F1.out F2.out fY TY, hS.symm, by rw [hD, hY]; exact rd_rev F2.out z3.1 hx1 z1.2.2.1 T1⟩
  have HRZ : Hid (rdE f x false sz1 Z = 0 ∧ xout x.toNat sz1 = S ∧ rdD f sz1 Z x.toNat = D) := ⟨rd_again F1.out F2.out fZ TZ, hS.symm, by rw [hD, hZ]; exact rd_rot F2.out z3.1 hx1 z1.2.2.1 T1 n⟩
  have HT2 : Hid ((∀ j, In64 (nth Y j)) ∧ ∀ j, In64 (nth Z j)) := ⟨TY, TZ⟩
  have ls1 : sz1.length ≤ 6 := (flawE_short z2.2.1).1
  have lY : Y.length ≤ 4096 := (flawE_short fY).2
  have lZ : Z.length ≤ 4096 := (flawE_short fZ).2
  clear hS hD hY hZ T1 z1 z2 z3 hax fY fZ TY TZ hx1
  obtain ⟨x11, x12, x3, x4, s64, T⟩ := w8
  have HI1 : Hid (IsC w.heap.size w sa1 sz1 sc1 ∧ IsC w.heap.size w da1 dz1 dc1 ∧ (∀ j, In64 (nth sz1 j)) ∧ ∀ j, In64 (nth dz1 j)) := ⟨x3, x4, s64, T⟩
  clear x3 x4 T s64
  have n1 := Abx.new w (.bool false) (.slice sa1 sz1.length sc1) (.slice da1 dz1.length dc1)
  have n2 := lit_mid (w.alloc (.cells #[.bool false, .slice sa1 sz1.length sc1, .slice da1 dz1.length dc1] 25)) 3 [2, 7, 4] 3 rfl
  simp only [World.size_alloc, List.map_cons, List.map_nil] at n2
  go_enter Try.func3, Try.ntmps3
  go_wp2_with fail
  obtain ⟨wo3, hwo3⟩ : ∃ wo3, wo3 = ((w.alloc (.cells #[.bool false, .slice sa1 sz1.length sc1, .slice da1 dz1.length dc1] 25)).alloc (.cells #[.int .i64 2, .int .i64 7, .int .i64 4] 3)) := ⟨_, rfl⟩
  rw [← hwo3]
  have z4 : w.heap.size + 1 + 1 ≤ wo3.heap.size := by rw [hwo3]; simp only [World.size_alloc]; omega
  have B5 : Hid (Abx wo3 (w.heap.size) (.bool false) (.slice sa1 sz1.length sc1) (.slice da1 dz1.length dc1)) := by rw [hwo3]; exact (n1.al (.cells #[.int .i64 2, .int .i64 7, .int .i64 4] 3))
  have L6 : Hid (MidC (w.heap.size + 1) (w.heap.size + 1 + 1) wo3 (some ⟨w.heap.size + 1, 0, none⟩) ([2, 7, 4]) (3)) := by rw [hwo3]; exact n2
  have hb7 : Hid (Below w.heap.size w wo3) := by rw [hwo3]; exact (((Below.refl w.heap.size w).alloc (by omega) (.cells #[.bool false, .slice sa1 sz1.length sc1, .slice da1 dz1.length dc1] 25)).alloc (by simp only [World.size_alloc]; omega) (.cells #[.int .i64 2, .int .i64 7, .int .i64 4] 3))
  have zwo3 : w.heap.size ≤ wo3.heap.size := hb7.out.size
  clear hwo3 n1 n2
  refine (vec_c (some ⟨w.heap.size + 1, 0, none⟩) 3 [2, 7, 4] (by simp) _ (L6.out.is (by omega)).1).mono ?_
  rintro e v1 ⟨vap, vcp, gap, gcp, rfl, hVp, hGp, hB⟩
  have z8 : wo3.heap.size ≤ v1.heap.size := hB.size
  have B9 : Hid (Abx v1 (w.heap.size) (.bool false) (.slice sa1 sz1.length sc1) (.slice da1 dz1.length dc1)) := B5.out.go hB
  have L10 : Hid (MidC (w.heap.size + 1) (w.heap.size + 1 + 1) v1 (some ⟨w.heap.size + 1, 0, none⟩) ([2, 7, 4]) (3)) := L6.out.go (by omega) hB
  have hb11 : Hid (Below w.heap.size w v1) := hb7.out.trans (hB.mono hb7.out.size)
  have L12 : Hid (MidC (wo3.heap.size) (v1.heap.size) v1 (vap) ([(3 : Int)]) (vcp)) := hVp.midc
  have L13 : Hid (MidC (wo3.heap.size) (v1.heap.size) v1 (gap) ([2, 7, 4]) (gcp)) := hGp.midc
  clear hB hb7 B5 L6 hVp hGp
  clear L10
  go_wp2_with fail
  refine (rdw_ok 6 0 false vap vcp [(3 : Int)] 1 rfl gap gcp [2, 7, 4] 3 rfl _ (by unfold In64; decide) (by unfold In64; decide) (by decide) (by decide) (L12.out.is (by omega)) (L13.out.is (by omega)).1 (lit12 (by decide)) [] [7] HRd (by show rdE 6 0 false [(3 : Int)] [2, 7, 4] = 0 ∧ xout (0 : Int).toNat [(3 : Int)] = [] ∧ rdD 6 [(3 : Int)] [2, 7, 4] (0 : Int).toNat = [7]; decide +kernel)).mono ?_
  rintro e v2 ⟨f1, g1, f2, g2, rfl, hX0, hY0, hB⟩
  have z14 : v1.heap.size ≤ v2.heap.size := hB.size
  have B15 : Hid (Abx v2 (w.heap.size) (.bool false) (.slice sa1 sz1.length sc1) (.slice da1 dz1.length dc1)) := B9.out.go hB
  have L16 : Hid (MidC (wo3.heap.size) (v1.heap.size) v2 (vap) ([(3 : Int)]) (vcp)) := L12.out.go (by omega) hB
  have L17 : Hid (MidC (wo3.heap.size) (v1.heap.size) v2 (gap) ([2, 7, 4]) (gcp)) := L13.out.go (by omega) hB
  have hb18 : Hid (Below w.heap.size w v2) := hb11.out.trans (hB.mono hb11.out.size)
  have L19 : Hid (MidC (v1.heap.size) (v2.heap.size) v2 (f1) ([]) (g1)) := hX0.midc
  have L20 : Hid (MidC (v1.heap.size) (v2.heap.size) v2 (f2) ([7]) (g2)) := hY0.midc
  clear hB hb11 B9 L12 L13 hX0 hY0
  clear L16 L17
  obtain ⟨b21, ob21, rfl, _, _, _, _⟩ := L20.out.at (i := 0) (by decide)
  have n22 := Abx.new v2 (.bool false) (.slice f1 0 g1) (.slice (some ⟨b21, ob21, none⟩) 1 g2)
  have l23 := (n22).c0
  have l24 := (n22).c1
  have l25 := (n22).c2
  obtain ⟨_, _, l26e, _, _, l26, _⟩ := ((L20.out.al (by omega) (.cells #[.bool false, .slice f1 0 g1, .slice (some ⟨b21, ob21, none⟩) 1 g2] 25))).at (i := 0) (by decide)
  cases l26e
  try simp only [Nat.add_zero] at l26
  have l27 := ((B15.out.al (.cells #[.bool false, .slice f1 0 g1, .slice (some ⟨b21, ob21, none⟩) 1 g2] 25))).c0
  have l28 := ((B15.out.al (.cells #[.bool false, .slice f1 0 g1, .slice (some ⟨b21, ob21, none⟩) 1 g2] 25))).c1
  have l29 := ((B15.out.al (.cells #[.bool false, .slice f1 0 g1, .slice (some ⟨b21, ob21, none⟩) 1 g2] 25))).c2
  go_wp2_with fail
  obtain ⟨wo30, hwo30⟩ : ∃ wo30, wo30 = (v2.alloc (.cells #[.bool false, .slice f1 0 g1, .slice (some ⟨b21, ob21, none⟩) 1 g2] 25)) := ⟨_, rfl⟩
  rw [← hwo30]
  have z31 : v2.heap.size + 1 ≤ wo30.heap.size := by rw [hwo30]; simp only [World.size_alloc]; omega
  have B32 : Hid (Abx wo30 (w.heap.size) (.bool false) (.slice sa1 sz1.length sc1) (.slice da1 dz1.length dc1)) := by rw [hwo30]; exact (B15.out.al (.cells #[.bool false, .slice f1 0 g1, .slice (some ⟨b21, ob21, none⟩) 1 g2] 25))
  have B33 : Hid (Abx wo30 (v2.heap.size) (.bool false) (.slice f1 0 g1) (.slice (some ⟨b21, ob21, none⟩) 1 g2)) := by rw [hwo30]; exact n22
  have L34 : Hid (MidC (v1.heap.size) (v2.heap.size) wo30 (f1) ([]) (g1)) := by rw [hwo30]; exact (L19.out.al (by omega) (.cells #[.bool false, .slice f1 0 g1, .slice (some ⟨b21, ob21, none⟩) 1 g2] 25))
  have L35 : Hid (MidC (v1.heap.size) (v2.heap.size) wo30 (some ⟨b21, ob21, none⟩) ([7]) (g2)) := by rw [hwo30]; exact (L20.out.al (by omega) (.cells #[.bool false, .slice f1 0 g1, .slice (some ⟨b21, ob21, none⟩) 1 g2] 25))
  have hb36 : Hid (Below w.heap.size w wo30) := by rw [hwo30]; exact (hb18.out.alloc (by omega) (.cells #[.bool false, .slice f1 0 g1, .slice (some ⟨b21, ob21, none⟩) 1 g2] 25))
  have zwo30 : w.heap.size ≤ wo30.heap.size := hb36.out.size
  clear hwo30 n22 l23 l24 l25 l26 l27 l28 l29 hb18 B15 L19 L20
  clear L34 L35 B33
  refine (rdw_ok f x false sa1 sc1 sz1 sz1.length rfl da1 dc1 dz1 dz1.length rfl _ hf hx x11 x12 ((HI1.out.1.below hb36.out).mono hb36.out.size) ((HI1.out.2.1.1.below hb36.out).mono hb36.out.size) HI1.out.2.2.2 S D HRd HR1.out).mono ?_
  rintro e v3 ⟨xa1, xc1, ya1, yc1, rfl, hX1, hY1, hB⟩
  have z37 : wo30.heap.size ≤ v3.heap.size := hB.size
  have B38 : Hid (Abx v3 (w.heap.size) (.bool false) (.slice sa1 sz1.length sc1) (.slice da1 dz1.length dc1)) := B32.out.go hB
  have hb39 : Hid (Below w.heap.size w v3) := hb36.out.trans (hB.mono hb36.out.size)
  have L40 : Hid (MidC (wo30.heap.size) (v3.heap.size) v3 (xa1) (S) (xc1)) := hX1.midc
  have L41 : Hid (MidC (wo30.heap.size) (v3.heap.size) v3 (ya1) (D) (yc1)) := hY1.midc
  clear hB hb36 B32 hX1 hY1
  have n42 := Abx.new v3 (.bool false) (.slice xa1 S.length xc1) (.slice ya1 D.length yc1)
  go_wp2_with fail
  obtain ⟨wo43, hwo43⟩ : ∃ wo43, wo43 = (v3.alloc (.cells #[.bool false, .slice xa1 S.length xc1, .slice ya1 D.length yc1] 25)) := ⟨_, rfl⟩
  rw [← hwo43]
  have z44 : v3.heap.size + 1 ≤ wo43.heap.size := by rw [hwo43]; simp only [World.size_alloc]; omega
  have B45 : Hid (Abx wo43 (w.heap.size) (.bool false) (.slice sa1 sz1.length sc1) (.slice da1 dz1.length dc1)) := by rw [hwo43]; exact (B38.out.al (.cells #[.bool false, .slice xa1 S.length xc1, .slice ya1 D.length yc1] 25))
  have B46 : Hid (Abx wo43 (v3.heap.size) (.bool false) (.slice xa1 S.length xc1) (.slice ya1 D.length yc1)) := by rw [hwo43]; exact n42
  have L47 : Hid (MidC (wo30.heap.size) (v3.heap.size) wo43 (xa1) (S) (xc1)) := by rw [hwo43]; exact (L40.out.al (by omega) (.cells #[.bool false, .slice xa1 S.length xc1, .slice ya1 D.length yc1] 25))
  have L48 : Hid (MidC (wo30.heap.size) (v3.heap.size) wo43 (ya1) (D) (yc1)) := by rw [hwo43]; exact (L41.out.al (by omega) (.cells #[.bool false, .slice xa1 S.length xc1, .slice ya1 D.length yc1] 25))
  have hb49 : Hid (Below w.heap.size w wo43) := by rw [hwo43]; exact (hb39.out.alloc (by omega) (.cells #[.bool false, .slice xa1 S.length xc1, .slice ya1 D.length yc1] 25))
  have zwo43 : w.heap.size ≤ wo43.heap.size := hb49.out.size
  clear hwo43 n42 hb39 B38 L40 L41
  refine (monoid_yes f F2.out _).mono ?_
  rintro e v4 ⟨rfl, hB⟩
  have z50 : wo43.heap.size ≤ v4.heap.size := hB.size
  have B51 : Hid (Abx v4 (w.heap.size) (.bool false) (.slice sa1 sz1.length sc1) (.slice da1 dz1.length dc1)) := B45.out.go hB
  have B52 : Hid (Abx v4 (v3.heap.size) (.bool false) (.slice xa1 S.length xc1) (.slice ya1 D.length yc1)) := B46.out.go hB
  have L53 : Hid (MidC (wo30.heap.size) (v3.heap.size) v4 (xa1) (S) (xc1)) := L47.out.go (by omega) hB
  have L54 : Hid (MidC (wo30.heap.size) (v3.heap.size) v4 (ya1) (D) (yc1)) := L48.out.go (by omega) hB
  have hb55 : Hid (Below w.heap.size w v4) := hb49.out.trans (hB.mono hb49.out.size)
  clear hB hb49 B45 B46 L47 L48
  have l56 := (B51.out).c0
  have l57 := (B51.out).c1
  have l58 := (B51.out).c2
  go_wp2_with fail
  clear l56 l57 l58
  refine (rvw12_ok x false sa1 sc1 sz1 da1 dc1 dz1 _ hx x11 x12 ((HI1.out.1.below hb55.out).mono hb55.out.size) ((HI1.out.2.1.1.below hb55.out).mono hb55.out.size) HI1.out.2.2.2 sz1 Y HRv ⟨HY.out.1, rfl, HY.out.2⟩).mono ?_
  rintro e v5 ⟨xa2, xc2, ya2, yc2, rfl, hX2, hY2, hB⟩
  have z59 : v4.heap.size ≤ v5.heap.size := hB.size
  have B60 : Hid (Abx v5 (w.heap.size) (.bool false) (.slice sa1 sz1.length sc1) (.slice da1 dz1.length dc1)) := B51.out.go hB
  have B61 : Hid (Abx v5 (v3.heap.size) (.bool false) (.slice xa1 S.length xc1) (.slice ya1 D.length yc1)) := B52.out.go hB
  have L62 : Hid (MidC (wo30.heap.size) (v3.heap.size) v5 (xa1) (S) (xc1)) := L53.out.go (by omega) hB
  have L63 : Hid (MidC (wo30.heap.size) (v3.heap.size) v5 (ya1) (D) (yc1)) := L54.out.go (by omega) hB
  have hb64 : Hid (Below w.heap.size w v5) := hb55.out.trans (hB.mono hb55.out.size)
  have L65 : Hid (MidC (v4.heap.size) (v5.heap.size) v5 (xa2) (sz1) (xc2)) := hX2.midc
  have L66 : Hid (MidC (v4.heap.size) (v5.heap.size) v5 (ya2) (Y) (yc2)) := hY2.midc
  clear hB hb55 B51 B52 L53 L54 hX2 hY2
  have n67 := Abx.new v5 (.bool false) (.slice xa2 sz1.length xc2) (.slice ya2 Y.length yc2)
  have l68 := (n67).c0
  have l69 := (n67).c1
  have l70 := (n67).c2
  go_wp2_with fail
  obtain ⟨wo71, hwo71⟩ : ∃ wo71, wo71 = (v5.alloc (.cells #[.bool false, .slice xa2 sz1.length xc2, .slice ya2 Y.length yc2] 25)) := ⟨_, rfl⟩
  rw [← hwo71]
  have z72 : v5.heap.size + 1 ≤ wo71.heap.size := by rw [hwo71]; simp only [World.size_alloc]; omega
  have B73 : Hid (Abx wo71 (w.heap.size) (.bool false) (.slice sa1 sz1.length sc1) (.slice da1 dz1.length dc1)) := by rw [hwo71]; exact (B60.out.al (.cells #[.bool false, .slice xa2 sz1.length xc2, .slice ya2 Y.length yc2] 25))
  have B74 : Hid (Abx wo71 (v3.heap.size) (.bool false) (.slice xa1 S.length xc1) (.slice ya1 D.length yc1)) := by rw [hwo71]; exact (B61.out.al (.cells #[.bool false, .slice xa2 sz1.length xc2, .slice ya2 Y.length yc2] 25))
  have B75 : Hid (Abx wo71 (v5.heap.size) (.bool false) (.slice xa2 sz1.length xc2) (.slice ya2 Y.length yc2)) := by rw [hwo71]; exact n67
  have L76 : Hid (MidC (wo30.heap.size) (v3.heap.size) wo71 (xa1) (S) (xc1)) := by rw [hwo71]; exact (L62.out.al (by omega) (.cells #[.bool false, .slice xa2 sz1.length xc2, .slice ya2 Y.length yc2] 25))
  have L77 : Hid (MidC (wo30.heap.size) (v3.heap.size) wo71 (ya1) (D) (yc1)) := by rw [hwo71]; exact (L63.out.al (by omega) (.cells #[.bool false, .slice xa2 sz1.length xc2, .slice ya2 Y.length yc2] 25))
  have L78 : Hid (MidC (v4.heap.size) (v5.heap.size) wo71 (xa2) (sz1) (xc2)) := by rw [hwo71]; exact (L65.out.al (by omega) (.cells #[.bool false, .slice xa2 sz1.length xc2, .slice ya2 Y.length yc2] 25))
  have L79 : Hid (MidC (v4.heap.size) (v5.heap.size) wo71 (ya2) (Y) (yc2)) := by rw [hwo71]; exact (L66.out.al (by omega) (.cells #[.bool false, .slice xa2 sz1.length xc2, .slice ya2 Y.length yc2] 25))
  have hb80 : Hid (Below w.heap.size w wo71) := by rw [hwo71]; exact (hb64.out.alloc (by omega) (.cells #[.bool false, .slice xa2 sz1.length xc2, .slice ya2 Y.length yc2] 25))
  have zwo71 : w.heap.size ≤ wo71.heap.size := hb80.out.size
  clear hwo71 n67 l68 l69 l70 hb64 B60 B61 L62 L63 L65 L66
  refine (rdw_ok f x false xa2 xc2 sz1 sz1.length rfl ya2 yc2 Y Y.length rfl _ hf hx (by omega) (by omega) (L78.out.is (by omega)) (L79.out.is (by omega)).1 HT2.out.1 S D HRd HRY.out).mono ?_
  rintro e v6 ⟨xa3, xc3, ya3, yc3, rfl, hX3, hY3, hB⟩
  have z81 : wo71.heap.size ≤ v6.heap.size := hB.size
  have B82 : Hid (Abx v6 (w.heap.size) (.bool false) (.slice sa1 sz1.length sc1) (.slice da1 dz1.length dc1)) := B73.out.go hB
  have B83 : Hid (Abx v6 (v3.heap.size) (.bool false) (.slice xa1 S.length xc1) (.slice ya1 D.length yc1)) := B74.out.go hB
  have B84 : Hid (Abx v6 (v5.heap.size) (.bool false) (.slice xa2 sz1.length xc2) (.slice ya2 Y.length yc2)) := B75.out.go hB
  have L85 : Hid (MidC (wo30.heap.size) (v3.heap.size) v6 (xa1) (S) (xc1)) := L76.out.go (by omega) hB
  have L86 : Hid (MidC (wo30.heap.size) (v3.heap.size) v6 (ya1) (D) (yc1)) := L77.out.go (by omega) hB
  have L87 : Hid (MidC (v4.heap.size) (v5.heap.size) v6 (xa2) (sz1) (xc2)) := L78.out.go (by omega) hB
  have L88 : Hid (MidC (v4.heap.size) (v5.heap.size) v6 (ya2) (Y) (yc2)) := L79.out.go (by omega) hB
  have hb89 : Hid (Below w.heap.size w v6) := hb80.out.trans (hB.mono hb80.out.size)
  have L90 : Hid (MidC (wo71.heap.size) (v6.heap.size) v6 (xa3) (S) (xc3)) := hX3.midc
  have L91 : Hid (MidC (wo71.heap.size) (v6.heap.size) v6 (ya3) (D) (yc3)) := hY3.midc
  clear hB hb80 B73 B74 B75 L76 L77 L78 L79 hX3 hY3
  clear L87 L88 B84
  have n92 := Abx.new v6 (.bool false) (.slice xa3 S.length xc3) (.slice ya3 D.length yc3)
  have l93 := (n92).c0
  have l94 := (n92).c1
  have l95 := (n92).c2
  have l96 := ((B83.out.al (.cells #[.bool false, .slice xa3 S.length xc3, .slice ya3 D.length yc3] 25))).c0
  have l97 := ((B83.out.al (.cells #[.bool false, .slice xa3 S.length xc3, .slice ya3 D.length yc3] 25))).c1
  have l98 := ((B83.out.al (.cells #[.bool false, .slice xa3 S.length xc3, .slice ya3 D.length yc3] 25))).c2
  go_wp2_with fail
  obtain ⟨wo99, hwo99⟩ : ∃ wo99, wo99 = (v6.alloc (.cells #[.bool false, .slice xa3 S.length xc3, .slice ya3 D.length yc3] 25)) := ⟨_, rfl⟩
  rw [← hwo99]
  have z100 : v6.heap.size + 1 ≤ wo99.heap.size := by rw [hwo99]; simp only [World.size_alloc]; omega
  have B101 : Hid (Abx wo99 (w.heap.size) (.bool false) (.slice sa1 sz1.length sc1) (.slice da1 dz1.length dc1)) := by rw [hwo99]; exact (B82.out.al (.cells #[.bool false, .slice xa3 S.length xc3, .slice ya3 D.length yc3] 25))
  have B102 : Hid (Abx wo99 (v3.heap.size) (.bool false) (.slice xa1 S.length xc1) (.slice ya1 D.length yc1)) := by rw [hwo99]; exact (B83.out.al (.cells #[.bool false, .slice xa3 S.length xc3, .slice ya3 D.length yc3] 25))
  have B103 : Hid (Abx wo99 (v6.heap.size) (.bool false) (.slice xa3 S.length xc3) (.slice ya3 D.length yc3)) := by rw [hwo99]; exact n92
  have L104 : Hid (MidC (wo30.heap.size) (v3.heap.size) wo99 (xa1) (S) (xc1)) := by rw [hwo99]; exact (L85.out.al (by omega) (.cells #[.bool false, .slice xa3 S.length xc3, .slice ya3 D.length yc3] 25))
  have L105 : Hid (MidC (wo30.heap.size) (v3.heap.size) wo99 (ya1) (D) (yc1)) := by rw [hwo99]; exact (L86.out.al (by omega) (.cells #[.bool false, .slice xa3 S.length xc3, .slice ya3 D.length yc3] 25))
  have L106 : Hid (MidC (wo71.heap.size) (v6.heap.size) wo99 (xa3) (S) (xc3)) := by rw [hwo99]; exact (L90.out.al (by omega) (.cells #[.bool false, .slice xa3 S.length xc3, .slice ya3 D.length yc3] 25))
  have L107 : Hid (MidC (wo71.heap.size) (v6.heap.size) wo99 (ya3) (D) (yc3)) := by rw [hwo99]; exact (L91.out.al (by omega) (.cells #[.bool false, .slice xa3 S.length xc3, .slice ya3 D.length yc3] 25))
  have hb108 : Hid (Below w.heap.size w wo99) := by rw [hwo99]; exact (hb89.out.alloc (by omega) (.cells #[.bool false, .slice xa3 S.length xc3, .slice ya3 D.length yc3] 25))
  have zwo99 : w.heap.size ≤ wo99.heap.size := hb108.out.size
  clear hwo99 n92 l93 l94 l95 l96 l97 l98 hb89 B82 B83 L85 L86 L90 L91
  refine (alike_eq false xa3 xc3 S ya3 yc3 D xa1 xc1 S ya1 yc1 D rfl rfl (by omega) (by omega) _ (L106.out.is (by omega)) (L107.out.is (by omega)).1 (L104.out.is (by omega)) (L105.out.is (by omega)).1).mono ?_
  rintro e v7 ⟨rfl, hB⟩
  have z109 : wo99.heap.size ≤ v7.heap.size := hB.size
  have B110 : Hid (Abx v7 (w.heap.size) (.bool false) (.slice sa1 sz1.length sc1) (.slice da1 dz1.length dc1)) := B101.out.go hB
  have B111 : Hid (Abx v7 (v3.heap.size) (.bool false) (.slice xa1 S.length xc1) (.slice ya1 D.length yc1)) := B102.out.go hB
  have B112 : Hid (Abx v7 (v6.heap.size) (.bool false) (.slice xa3 S.length xc3) (.slice ya3 D.length yc3)) := B103.out.go hB
  have L113 : Hid (MidC (wo30.heap.size) (v3.heap.size) v7 (xa1) (S) (xc1)) := L104.out.go (by omega) hB
  have L114 : Hid (MidC (wo30.heap.size) (v3.heap.size) v7 (ya1) (D) (yc1)) := L105.out.go (by omega) hB
  have L115 : Hid (MidC (wo71.heap.size) (v6.heap.size) v7 (xa3) (S) (xc3)) := L106.out.go (by omega) hB
  have L116 : Hid (MidC (wo71.heap.size) (v6.heap.size) v7 (ya3) (D) (yc3)) := L107.out.go (by omega) hB
  have hb117 : Hid (Below w.heap.size w v7) := hb108.out.trans (hB.mono hb108.out.size)
  clear hB hb108 B101 B102 B103 L104 L105 L106 L107
  clear L115 L116 B112
  have l118 := (B110.out).c0
  have l119 := (B110.out).c1
  have l120 := (B110.out).c2
  go_wp2_with fail
  clear l118 l119 l120
  refine (rtw12_ok n x false sa1 sc1 sz1 da1 dc1 dz1 _ hn hx x11 x12 ((HI1.out.1.below hb117.out).mono hb117.out.size) ((HI1.out.2.1.1.below hb117.out).mono hb117.out.size) HI1.out.2.2.2 sz1 Z HRt ⟨HZ.out.1, rfl, HZ.out.2⟩).mono ?_
  rintro e v8 ⟨xa4, xc4, ya4, yc4, rfl, hX4, hY4, hB⟩
  have z121 : v7.heap.size ≤ v8.heap.size := hB.size
  have B122 : Hid (Abx v8 (w.heap.size) (.bool false) (.slice sa1 sz1.length sc1) (.slice da1 dz1.length dc1)) := B110.out.go hB
  have B123 : Hid (Abx v8 (v3.heap.size) (.bool false) (.slice xa1 S.length xc1) (.slice ya1 D.length yc1)) := B111.out.go hB
  have L124 : Hid (MidC (wo30.heap.size) (v3.heap.size) v8 (xa1) (S) (xc1)) := L113.out.go (by omega) hB
  have L125 : Hid (MidC (wo30.heap.size) (v3.heap.size) v8 (ya1) (D) (yc1)) := L114.out.go (by omega) hB
  have hb126 : Hid (Below w.heap.size w v8) := hb117.out.trans (hB.mono hb117.out.size)
  have L127 : Hid (MidC (v7.heap.size) (v8.heap.size) v8 (xa4) (sz1) (xc4)) := hX4.midc
  have L128 : Hid (MidC (v7.heap.size) (v8.heap.size) v8 (ya4) (Z) (yc4)) := hY4.midc
  clear hB hb117 B110 B111 L113 L114 hX4 hY4
  have n129 := Abx.new v8 (.bool false) (.slice xa4 sz1.length xc4) (.slice ya4 Z.length yc4)
  have l130 := (n129).c0
  have l131 := (n129).c1
  have l132 := (n129).c2
  go_wp2_with fail
  obtain ⟨wo133, hwo133⟩ : ∃ wo133, wo133 = (v8.alloc (.cells #[.bool false, .slice xa4 sz1.length xc4, .slice ya4 Z.length yc4] 25)) := ⟨_, rfl⟩
  rw [← hwo133]
  have z134 : v8.heap.size + 1 ≤ wo133.heap.size := by rw [hwo133]; simp only [World.size_alloc]; omega
  have B135 : Hid (Abx wo133 (w.heap.size) (.bool false) (.slice sa1 sz1.length sc1) (.slice da1 dz1.length dc1)) := by rw [hwo133]; exact (B122.out.al (.cells #[.bool false, .slice xa4 sz1.length xc4, .slice ya4 Z.length yc4] 25))
  have B136 : Hid (Abx wo133 (v3.heap.size) (.bool false) (.slice xa1 S.length xc1) (.slice ya1 D.length yc1)) := by rw [hwo133]; exact (B123.out.al (.cells #[.bool false, .slice xa4 sz1.length xc4, .slice ya4 Z.length yc4] 25))
  have B137 : Hid (Abx wo133 (v8.heap.size) (.bool false) (.slice xa4 sz1.length xc4) (.slice ya4 Z.length yc4)) := by rw [hwo133]; exact n129
  have L138 : Hid (MidC (wo30.heap.size) (v3.heap.size) wo133 (xa1) (S) (xc1)) := by rw [hwo133]; exact (L124.out.al (by omega) (.cells #[.bool false, .slice xa4 sz1.length xc4, .slice ya4 Z.length yc4] 25))
  have L139 : Hid (MidC (wo30.heap.size) (v3.heap.size) wo133 (ya1) (D) (yc1)) := by rw [hwo133]; exact (L125.out.al (by omega) (.cells #[.bool false, .slice xa4 sz1.length xc4, .slice ya4 Z.length yc4] 25))
  have L140 : Hid (MidC (v7.heap.size) (v8.heap.size) wo133 (xa4) (sz1) (xc4)) := by rw [hwo133]; exact (L127.out.al (by omega) (.cells #[.bool false, .slice xa4 sz1.length xc4, .slice ya4 Z.length yc4] 25))
  have L141 : Hid (MidC (v7.heap.size) (v8.heap.size) wo133 (ya4) (Z) (yc4)) := by rw [hwo133]; exact (L128.out.al (by omega) (.cells #[.bool false, .slice xa4 sz1.length xc4, .slice ya4 Z.length yc4] 25))
  have hb142 : Hid (Below w.heap.size w wo133) := by rw [hwo133]; exact (hb126.out.alloc (by omega) (.cells #[.bool false, .slice xa4 sz1.length xc4, .slice ya4 Z.length yc4] 25))
  have zwo133 : w.heap.size ≤ wo133.heap.size := hb142.out.size
  clear hwo133 n129 l130 l131 l132 hb126 B122 B123 L124 L125 L127 L128
  refine (rdw_ok f x false xa4 xc4 sz1 sz1.length rfl ya4 yc4 Z Z.length rfl _ hf hx (by omega) (by omega) (L140.out.is (by omega)) (L141.out.is (by omega)).1 HT2.out.2 S D HRd HRZ.out).mono ?_
  rintro e v9 ⟨xa5, xc5, ya5, yc5, rfl, hX5, hY5, hB⟩
  have z143 : wo133.heap.size ≤ v9.heap.size := hB.size
  have B144 : Hid (Abx v9 (w.heap.size) (.bool false) (.slice sa1 sz1.length sc1) (.slice da1 dz1.length dc1)) := B135.out.go hB
  have B145 : Hid (Abx v9 (v3.heap.size) (.bool false) (.slice xa1 S.length xc1) (.slice ya1 D.length yc1)) := B136.out.go hB
  have B146 : Hid (Abx v9 (v8.heap.size) (.bool false) (.slice xa4 sz1.length xc4) (.slice ya4 Z.length yc4)) := B137.out.go hB
  have L147 : Hid (MidC (wo30.heap.size) (v3.heap.size) v9 (xa1) (S) (xc1)) := L138.out.go (by omega) hB
  have L148 : Hid (MidC (wo30.heap.size) (v3.heap.size) v9 (ya1) (D) (yc1)) := L139.out.go (by omega) hB
  have L149 : Hid (MidC (v7.heap.size) (v8.heap.size) v9 (xa4) (sz1) (xc4)) := L140.out.go (by omega) hB
  have L150 : Hid (MidC (v7.heap.size) (v8.heap.size) v9 (ya4) (Z) (yc4)) := L141.out.go (by omega) hB
  have hb151 : Hid (Below w.heap.size w v9) := hb142.out.trans (hB.mono hb142.out.size)
  have L152 : Hid (MidC (wo133.heap.size) (v9.heap.size) v9 (xa5) (S) (xc5)) := hX5.midc
  have L153 : Hid (MidC (wo133.heap.size) (v9.heap.size) v9 (ya5) (D) (yc5)) := hY5.midc
  clear hB hb142 B135 B136 B137 L138 L139 L140 L141 hX5 hY5
  clear L149 L150 B146
  have n154 := Abx.new v9 (.bool false) (.slice xa5 S.length xc5) (.slice ya5 D.length yc5)
  have l155 := (n154).c0
  have l156 := (n154).c1
  have l157 := (n154).c2
  have l158 := ((B145.out.al (.cells #[.bool false, .slice xa5 S.length xc5, .slice ya5 D.length yc5] 25))).c0
  have l159 := ((B145.out.al (.cells #[.bool false, .slice xa5 S.length xc5, .slice ya5 D.length yc5] 25))).c1
  have l160 := ((B145.out.al (.cells #[.bool false, .slice xa5 S.length xc5, .slice ya5 D.length yc5] 25))).c2
  go_wp2_with fail
  obtain ⟨wo161, hwo161⟩ : ∃ wo161, wo161 = (v9.alloc (.cells #[.bool false, .slice xa5 S.length xc5, .slice ya5 D.length yc5] 25)) := ⟨_, rfl⟩
  rw [← hwo161]
  have z162 : v9.heap.size + 1 ≤ wo161.heap.size := by rw [hwo161]; simp only [World.size_alloc]; omega
  have B163 : Hid (Abx wo161 (w.heap.size) (.bool false) (.slice sa1 sz1.length sc1) (.slice da1 dz1.length dc1)) := by rw [hwo161]; exact (B144.out.al (.cells #[.bool false, .slice xa5 S.length xc5, .slice ya5 D.length yc5] 25))
  have B164 : Hid (Abx wo161 (v3.heap.size) (.bool false) (.slice xa1 S.length xc1) (.slice ya1 D.length yc1)) := by rw [hwo161]; exact (B145.out.al (.cells #[.bool false, .slice xa5 S.length xc5, .slice ya5 D.length yc5] 25))
  have B165 : Hid (Abx wo161 (v9.heap.size) (.bool false) (.slice xa5 S.length xc5) (.slice ya5 D.length yc5)) := by rw [hwo161]; exact n154
  have L166 : Hid (MidC (wo30.heap.size) (v3.heap.size) wo161 (xa1) (S) (xc1)) := by rw [hwo161]; exact (L147.out.al (by omega) (.cells #[.bool false, .slice xa5 S.length xc5, .slice ya5 D.length yc5] 25))
  have L167 : Hid (MidC (wo30.heap.size) (v3.heap.size) wo161 (ya1) (D) (yc1)) := by rw [hwo161]; exact (L148.out.al (by omega) (.cells #[.bool false, .slice xa5 S.length xc5, .slice ya5 D.length yc5] 25))
  have L168 : Hid (MidC (wo133.heap.size) (v9.heap.size) wo161 (xa5) (S) (xc5)) := by rw [hwo161]; exact (L152.out.al (by omega) (.cells #[.bool false, .slice xa5 S.length xc5, .slice ya5 D.length yc5] 25))
  have L169 : Hid (MidC (wo133.heap.size) (v9.heap.size) wo161 (ya5) (D) (yc5)) := by rw [hwo161]; exact (L153.out.al (by omega) (.cells #[.bool false, .slice xa5 S.length xc5, .slice ya5 D.length yc5] 25))
  have hb170 : Hid (Below w.heap.size w wo161) := by rw [hwo161]; exact (hb151.out.alloc (by omega) (.cells #[.bool false, .slice xa5 S.length xc5, .slice ya5 D.length yc5] 25))
  have zwo161 : w.heap.size ≤ wo161.heap.size := hb170.out.size
  clear hwo161 n154 l155 l156 l157 l158 l159 l160 hb151 B144 B145 L147 L148 L152 L153
  refine (alike_eq false xa5 xc5 S ya5 yc5 D xa1 xc1 S ya1 yc1 D rfl rfl (by omega) (by omega) _ (L168.out.is (by omega)) (L169.out.is (by omega)).1 (L166.out.is (by omega)) (L167.out.is (by omega)).1).mono ?_
  rintro e v10 ⟨rfl, hB⟩
  have z171 : wo161.heap.size ≤ v10.heap.size := hB.size
  have B172 : Hid (Abx v10 (w.heap.size) (.bool false) (.slice sa1 sz1.length sc1) (.slice da1 dz1.length dc1)) := B163.out.go hB
  have B173 : Hid (Abx v10 (v3.heap.size) (.bool false) (.slice xa1 S.length xc1) (.slice ya1 D.length yc1)) := B164.out.go hB
  have B174 : Hid (Abx v10 (v9.heap.size) (.bool false) (.slice xa5 S.length xc5) (.slice ya5 D.length yc5)) := B165.out.go hB
  have L175 : Hid (MidC (wo30.heap.size) (v3.heap.size) v10 (xa1) (S) (xc1)) := L166.out.go (by omega) hB
  have L176 : Hid (MidC (wo30.heap.size) (v3.heap.size) v10 (ya1) (D) (yc1)) := L167.out.go (by omega) hB
  have L177 : Hid (MidC (wo133.heap.size) (v9.heap.size) v10 (xa5) (S) (xc5)) := L168.out.go (by omega) hB
  have L178 : Hid (MidC (wo133.heap.size) (v9.heap.size) v10 (ya5) (D) (yc5)) := L169.out.go (by omega) hB
  have hb179 : Hid (Below w.heap.size w v10) := hb170.out.trans (hB.mono hb170.out.size)
  clear hB hb170 B163 B164 B165 L166 L167 L168 L169
  go_wp2_with fail
  go_ret
  exact ⟨rfl, hb179.out⟩
theorem fturns_walk (HRd : CRd) (HRv : CRvB) (HRt : CRtB) (f n x : Int) (hf : In64 f) (hn : In64 n) (hx : In64 x) (c1 : Bool) (sa1 : Option Addr) (sc1 : Nat) (sz1 : List Int) (da1 : Option Addr) (dc1 : Nat) (dz1 : List Int) (w : World) (w8 : IsArrD w sa1 sz1 sc1 da1 dz1 dc1) :
    Calls Try.prog 3 #[.int .i64 f, .int .i64 n, .int .i64 x, .agg #[.bool c1, .slice sa1 sz1.length sc1, .slice da1 dz1.length dc1]] w fun e w' => e = .returned (.bool true) ∧ Below w.heap.size w w' := by
  by_cases h1 : rdE f x c1 sz1 dz1 = 0
  · by_cases h2 : Mon f
    · exact turns_ok HRd HRv HRt f n x hf hn hx c1 sa1 sc1 sz1 da1 dc1 dz1 w w8 h1 h2 (lnE_zero.1 (rdE_zero.1 h1).1).2.2.2
    · exact turns_other HRd HRv HRt f n x hf hn hx c1 sa1 sc1 sz1 da1 dc1 dz1 w w8 h1 h2
  · exact turns_no HRd HRv HRt f n x hf hn hx c1 sa1 sc1 sz1 da1 dc1 dz1 w w8 h1
end Go.Proofs.Ytmbgomljofngnac
