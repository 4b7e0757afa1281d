/-
  The walk of the statement FoldSwings, given what the program tells.
-/
import Derived.Test.YtmbgomljofngnacFldx
import Derived.Test.YtmbgomljofngnacMidc
import Derived.Test.YtmbgomljofngnacSarr
namespace Go.Proofs.Ytmbgomljofngnac
open Go.RowKit
set_option linter.unusedVariables false

set_option maxRecDepth 100000 in
set_option maxHeartbeats 8000000 in
theorem swings_flaw (HRd : CRd) (c1 : Bool) (sa1 : Option Addr) (sc1 : Nat) (sz1 : List Int) (da1 : Option Addr) (dc1 : Nat) (dz1 : List Int) (w : World) (w8 : IsArrD w sa1 sz1 sc1 da1 dz1 dc1) (F1 : Hid (flawE c1 sz1 dz1 ≠ 0)) :
    Calls Try.prog 4 #[.agg #[.bool c1, .slice sa1 sz1.length sc1, .slice da1 dz1.length dc1]] w fun e w' => e = .returned (.bool true) ∧ Below w.heap.size w w' := by
  obtain ⟨x11, x12, x3, x4, s64, T⟩ := w8
  have HI1 : Hid (IsC w.heap.size w sa1 sz1 sc1 ∧ IsC w.heap.size w da1 dz1 dc1 ∧ (∀ j, In64 (nth sz1 j)) ∧ ∀ j, In64 (nth dz1 j)) := ⟨x3, x4, s64, T⟩
  clear x3 x4 T s64
  have n1 := Abx.new w (.bool c1) (.slice sa1 sz1.length sc1) (.slice da1 dz1.length dc1)
  have n2 := lit_mid (w.alloc (.cells #[.bool c1, .slice sa1 sz1.length sc1, .slice da1 dz1.length dc1] 25)) 3 [5, 3, 1] 3 rfl
  simp only [World.size_alloc, List.map_cons, List.map_nil] at n2
  go_enter Try.func4, Try.ntmps4
  go_wp2_with fail
  obtain ⟨wo3, hwo3⟩ : ∃ wo3, wo3 = ((w.alloc (.cells #[.bool c1, .slice sa1 sz1.length sc1, .slice da1 dz1.length dc1] 25)).alloc (.cells #[.int .i64 5, .int .i64 3, .int .i64 1] 3)) := ⟨_, rfl⟩
  rw [← hwo3]
  have z4 : w.heap.size + 1 + 1 ≤ wo3.heap.size := by rw [hwo3]; simp only [World.size_alloc]; omega
  have B5 : Hid (Abx wo3 (w.heap.size) (.bool c1) (.slice sa1 sz1.length sc1) (.slice da1 dz1.length dc1)) := by rw [hwo3]; exact (n1.al (.cells #[.int .i64 5, .int .i64 3, .int .i64 1] 3))
  have L6 : Hid (MidC (w.heap.size + 1) (w.heap.size + 1 + 1) wo3 (some ⟨w.heap.size + 1, 0, none⟩) ([5, 3, 1]) (3)) := by rw [hwo3]; exact n2
  have hb7 : Hid (Below w.heap.size w wo3) := by rw [hwo3]; exact (((Below.refl w.heap.size w).alloc (by omega) (.cells #[.bool c1, .slice sa1 sz1.length sc1, .slice da1 dz1.length dc1] 25)).alloc (by simp only [World.size_alloc]; omega) (.cells #[.int .i64 5, .int .i64 3, .int .i64 1] 3))
  have zwo3 : w.heap.size ≤ wo3.heap.size := hb7.out.size
  clear hwo3 n1 n2
  refine (vec_c (some ⟨w.heap.size + 1, 0, none⟩) 3 [5, 3, 1] (by simp) _ (L6.out.is (by omega)).1).mono ?_
  rintro e v1 ⟨vap, vcp, gap, gcp, rfl, hVp, hGp, hB⟩
  have z8 : wo3.heap.size ≤ v1.heap.size := hB.size
  have B9 : Hid (Abx v1 (w.heap.size) (.bool c1) (.slice sa1 sz1.length sc1) (.slice da1 dz1.length dc1)) := B5.out.go hB
  have L10 : Hid (MidC (w.heap.size + 1) (w.heap.size + 1 + 1) v1 (some ⟨w.heap.size + 1, 0, none⟩) ([5, 3, 1]) (3)) := L6.out.go (by omega) hB
  have hb11 : Hid (Below w.heap.size w v1) := hb7.out.trans (hB.mono hb7.out.size)
  have L12 : Hid (MidC (wo3.heap.size) (v1.heap.size) v1 (vap) ([(3 : Int)]) (vcp)) := hVp.midc
  have L13 : Hid (MidC (wo3.heap.size) (v1.heap.size) v1 (gap) ([5, 3, 1]) (gcp)) := hGp.midc
  clear hB hb7 B5 L6 hVp hGp
  clear L10
  go_wp2_with fail
  refine (rdw_ok 2 0 false vap vcp [(3 : Int)] 1 rfl gap gcp [5, 3, 1] 3 rfl _ (by unfold In64; decide) (by unfold In64; decide) (by decide) (by decide) (L12.out.is (by omega)) (L13.out.is (by omega)).1 (lit12 (by decide)) [] [3] HRd (by show rdE 2 0 false [(3 : Int)] [5, 3, 1] = 0 ∧ xout (0 : Int).toNat [(3 : Int)] = [] ∧ rdD 2 [(3 : Int)] [5, 3, 1] (0 : Int).toNat = [3]; decide +kernel)).mono ?_
  rintro e v2 ⟨f1, g1, f2, g2, rfl, hX0, hY0, hB⟩
  have z14 : v1.heap.size ≤ v2.heap.size := hB.size
  have B15 : Hid (Abx v2 (w.heap.size) (.bool c1) (.slice sa1 sz1.length sc1) (.slice da1 dz1.length dc1)) := B9.out.go hB
  have L16 : Hid (MidC (wo3.heap.size) (v1.heap.size) v2 (vap) ([(3 : Int)]) (vcp)) := L12.out.go (by omega) hB
  have L17 : Hid (MidC (wo3.heap.size) (v1.heap.size) v2 (gap) ([5, 3, 1]) (gcp)) := L13.out.go (by omega) hB
  have hb18 : Hid (Below w.heap.size w v2) := hb11.out.trans (hB.mono hb11.out.size)
  have L19 : Hid (MidC (v1.heap.size) (v2.heap.size) v2 (f1) ([]) (g1)) := hX0.midc
  have L20 : Hid (MidC (v1.heap.size) (v2.heap.size) v2 (f2) ([3]) (g2)) := hY0.midc
  clear hB hb11 B9 L12 L13 hX0 hY0
  clear L16 L17
  obtain ⟨b21, ob21, rfl, _, _, _, _⟩ := L20.out.at (i := 0) (by decide)
  have n22 := Abx.new v2 (.bool false) (.slice f1 0 g1) (.slice (some ⟨b21, ob21, none⟩) 1 g2)
  have l23 := (n22).c0
  have l24 := (n22).c1
  have l25 := (n22).c2
  obtain ⟨_, _, l26e, _, _, l26, _⟩ := ((L20.out.al (by omega) (.cells #[.bool false, .slice f1 0 g1, .slice (some ⟨b21, ob21, none⟩) 1 g2] 25))).at (i := 0) (by decide)
  cases l26e
  try simp only [Nat.add_zero] at l26
  have l27 := ((B15.out.al (.cells #[.bool false, .slice f1 0 g1, .slice (some ⟨b21, ob21, none⟩) 1 g2] 25))).c0
  have l28 := ((B15.out.al (.cells #[.bool false, .slice f1 0 g1, .slice (some ⟨b21, ob21, none⟩) 1 g2] 25))).c1
  have l29 := ((B15.out.al (.cells #[.bool false, .slice f1 0 g1, .slice (some ⟨b21, ob21, none⟩) 1 g2] 25))).c2
  go_wp2_with fail
  obtain ⟨wo30, hwo30⟩ : ∃ wo30, wo30 = (v2.alloc (.cells #[.bool false, .slice f1 0 g1, .slice (some ⟨b21, ob21, none⟩) 1 g2] 25)) := ⟨_, rfl⟩
  rw [← hwo30]
  have z31 : v2.heap.size + 1 ≤ wo30.heap.size := by rw [hwo30]; simp only [World.size_alloc]; omega
  have B32 : Hid (Abx wo30 (w.heap.size) (.bool c1) (.slice sa1 sz1.length sc1) (.slice da1 dz1.length dc1)) := by rw [hwo30]; exact (B15.out.al (.cells #[.bool false, .slice f1 0 g1, .slice (some ⟨b21, ob21, none⟩) 1 g2] 25))
  have B33 : Hid (Abx wo30 (v2.heap.size) (.bool false) (.slice f1 0 g1) (.slice (some ⟨b21, ob21, none⟩) 1 g2)) := by rw [hwo30]; exact n22
  have L34 : Hid (MidC (v1.heap.size) (v2.heap.size) wo30 (f1) ([]) (g1)) := by rw [hwo30]; exact (L19.out.al (by omega) (.cells #[.bool false, .slice f1 0 g1, .slice (some ⟨b21, ob21, none⟩) 1 g2] 25))
  have L35 : Hid (MidC (v1.heap.size) (v2.heap.size) wo30 (some ⟨b21, ob21, none⟩) ([3]) (g2)) := by rw [hwo30]; exact (L20.out.al (by omega) (.cells #[.bool false, .slice f1 0 g1, .slice (some ⟨b21, ob21, none⟩) 1 g2] 25))
  have hb36 : Hid (Below w.heap.size w wo30) := by rw [hwo30]; exact (hb18.out.alloc (by omega) (.cells #[.bool false, .slice f1 0 g1, .slice (some ⟨b21, ob21, none⟩) 1 g2] 25))
  have zwo30 : w.heap.size ≤ wo30.heap.size := hb36.out.size
  clear hwo30 n22 l23 l24 l25 l26 l27 l28 l29 hb18 B15 L19 L20
  clear L34 L35 B33
  refine (check_no c1 sa1 sc1 sz1 da1 dc1 dz1 x11 x12 _ ((HI1.out.1.1.below hb36.out).mono hb36.out.size) ((HI1.out.2.1.1.below hb36.out).mono hb36.out.size) F1.out).mono ?_
  rintro e v3 ⟨rfl, hB⟩
  have z37 : wo30.heap.size ≤ v3.heap.size := hB.size
  have B38 : Hid (Abx v3 (w.heap.size) (.bool c1) (.slice sa1 sz1.length sc1) (.slice da1 dz1.length dc1)) := B32.out.go hB
  have hb39 : Hid (Below w.heap.size w v3) := hb36.out.trans (hB.mono hb36.out.size)
  clear hB hb36 B32
  go_wp2_with fail
  go_ret
  exact ⟨rfl, hb39.out⟩
set_option maxRecDepth 100000 in
set_option maxHeartbeats 8000000 in
theorem swings_char (HRd : CRd) (c1 : Bool) (sa1 : Option Addr) (sc1 : Nat) (sz1 : List Int) (da1 : Option Addr) (dc1 : Nat) (dz1 : List Int) (w : World) (w8 : IsArrD w sa1 sz1 sc1 da1 dz1 dc1) (F1 : Hid (flawE c1 sz1 dz1 = 0)) (hc : c1 = true) :
    Calls Try.prog 4 #[.agg #[.bool c1, .slice sa1 sz1.length sc1, .slice da1 dz1.length dc1]] w fun e w' => e = .returned (.bool true) ∧ Below w.heap.size w w' := by
  subst hc
  obtain ⟨x11, x12, x3, x4, s64, T⟩ := w8
  have HI1 : Hid (IsC w.heap.size w sa1 sz1 sc1 ∧ IsC w.heap.size w da1 dz1 dc1 ∧ (∀ j, In64 (nth sz1 j)) ∧ ∀ j, In64 (nth dz1 j)) := ⟨x3, x4, s64, T⟩
  clear x3 x4 T s64
  have n1 := Abx.new w (.bool true) (.slice sa1 sz1.length sc1) (.slice da1 dz1.length dc1)
  have n2 := lit_mid (w.alloc (.cells #[.bool true, .slice sa1 sz1.length sc1, .slice da1 dz1.length dc1] 25)) 3 [5, 3, 1] 3 rfl
  simp only [World.size_alloc, List.map_cons, List.map_nil] at n2
  go_enter Try.func4, Try.ntmps4
  go_wp2_with fail
  obtain ⟨wo3, hwo3⟩ : ∃ wo3, wo3 = ((w.alloc (.cells #[.bool true, .slice sa1 sz1.length sc1, .slice da1 dz1.length dc1] 25)).alloc (.cells #[.int .i64 5, .int .i64 3, .int .i64 1] 3)) := ⟨_, rfl⟩
  rw [← hwo3]
  have z4 : w.heap.size + 1 + 1 ≤ wo3.heap.size := by rw [hwo3]; simp only [World.size_alloc]; omega
  have B5 : Hid (Abx wo3 (w.heap.size) (.bool true) (.slice sa1 sz1.length sc1) (.slice da1 dz1.length dc1)) := by rw [hwo3]; exact (n1.al (.cells #[.int .i64 5, .int .i64 3, .int .i64 1] 3))
  have L6 : Hid (MidC (w.heap.size + 1) (w.heap.size + 1 + 1) wo3 (some ⟨w.heap.size + 1, 0, none⟩) ([5, 3, 1]) (3)) := by rw [hwo3]; exact n2
  have hb7 : Hid (Below w.heap.size w wo3) := by rw [hwo3]; exact (((Below.refl w.heap.size w).alloc (by omega) (.cells #[.bool true, .slice sa1 sz1.length sc1, .slice da1 dz1.length dc1] 25)).alloc (by simp only [World.size_alloc]; omega) (.cells #[.int .i64 5, .int .i64 3, .int .i64 1] 3))
  have zwo3 : w.heap.size ≤ wo3.heap.size := hb7.out.size
  clear hwo3 n1 n2
  refine (vec_c (some ⟨w.heap.size + 1, 0, none⟩) 3 [5, 3, 1] (by simp) _ (L6.out.is (by omega)).1).mono ?_
  rintro e v1 ⟨vap, vcp, gap, gcp, rfl, hVp, hGp, hB⟩
  have z8 : wo3.heap.size ≤ v1.heap.size := hB.size
  have B9 : Hid (Abx v1 (w.heap.size) (.bool true) (.slice sa1 sz1.length sc1) (.slice da1 dz1.length dc1)) := B5.out.go hB
  have L10 : Hid (MidC (w.heap.size + 1) (w.heap.size + 1 + 1) v1 (some ⟨w.heap.size + 1, 0, none⟩) ([5, 3, 1]) (3)) := L6.out.go (by omega) hB
  have hb11 : Hid (Below w.heap.size w v1) := hb7.out.trans (hB.mono hb7.out.size)
  have L12 : Hid (MidC (wo3.heap.size) (v1.heap.size) v1 (vap) ([(3 : Int)]) (vcp)) := hVp.midc
  have L13 : Hid (MidC (wo3.heap.size) (v1.heap.size) v1 (gap) ([5, 3, 1]) (gcp)) := hGp.midc
  clear hB hb7 B5 L6 hVp hGp
  clear L10
  go_wp2_with fail
  refine (rdw_ok 2 0 false vap vcp [(3 : Int)] 1 rfl gap gcp [5, 3, 1] 3 rfl _ (by unfold In64; decide) (by unfold In64; decide) (by decide) (by decide) (L12.out.is (by omega)) (L13.out.is (by omega)).1 (lit12 (by decide)) [] [3] HRd (by show rdE 2 0 false [(3 : Int)] [5, 3, 1] = 0 ∧ xout (0 : Int).toNat [(3 : Int)] = [] ∧ rdD 2 [(3 : Int)] [5, 3, 1] (0 : Int).toNat = [3]; decide +kernel)).mono ?_
  rintro e v2 ⟨f1, g1, f2, g2, rfl, hX0, hY0, hB⟩
  have z14 : v1.heap.size ≤ v2.heap.size := hB.size
  have B15 : Hid (Abx v2 (w.heap.size) (.bool true) (.slice sa1 sz1.length sc1) (.slice da1 dz1.length dc1)) := B9.out.go hB
  have L16 : Hid (MidC (wo3.heap.size) (v1.heap.size) v2 (vap) ([(3 : Int)]) (vcp)) := L12.out.go (by omega) hB
  have L17 : Hid (MidC (wo3.heap.size) (v1.heap.size) v2 (gap) ([5, 3, 1]) (gcp)) := L13.out.go (by omega) hB
  have hb18 : Hid (Below w.heap.size w v2) := hb11.out.trans (hB.mono hb11.out.size)
  have L19 : Hid (MidC (v1.heap.size) (v2.heap.size) v2 (f1) ([]) (g1)) := hX0.midc
  have L20 : Hid (MidC (v1.heap.size) (v2.heap.size) v2 (f2) ([3]) (g2)) := hY0.midc
  clear hB hb11 B9 L12 L13 hX0 hY0
  clear L16 L17
  obtain ⟨b21, ob21, rfl, _, _, _, _⟩ := L20.out.at (i := 0) (by decide)
  have n22 := Abx.new v2 (.bool false) (.slice f1 0 g1) (.slice (some ⟨b21, ob21, none⟩) 1 g2)
  have l23 := (n22).c0
  have l24 := (n22).c1
  have l25 := (n22).c2
  obtain ⟨_, _, l26e, _, _, l26, _⟩ := ((L20.out.al (by omega) (.cells #[.bool false, .slice f1 0 g1, .slice (some ⟨b21, ob21, none⟩) 1 g2] 25))).at (i := 0) (by decide)
  cases l26e
  try simp only [Nat.add_zero] at l26
  have l27 := ((B15.out.al (.cells #[.bool false, .slice f1 0 g1, .slice (some ⟨b21, ob21, none⟩) 1 g2] 25))).c0
  have l28 := ((B15.out.al (.cells #[.bool false, .slice f1 0 g1, .slice (some ⟨b21, ob21, none⟩) 1 g2] 25))).c1
  have l29 := ((B15.out.al (.cells #[.bool false, .slice f1 0 g1, .slice (some ⟨b21, ob21, none⟩) 1 g2] 25))).c2
  go_wp2_with fail
  obtain ⟨wo30, hwo30⟩ : ∃ wo30, wo30 = (v2.alloc (.cells #[.bool false, .slice f1 0 g1, .slice (some ⟨b21, ob21, none⟩) 1 g2] 25)) := ⟨_, rfl⟩
  rw [← hwo30]
  have z31 : v2.heap.size + 1 ≤ wo30.heap.size := by rw [hwo30]; simp only [World.size_alloc]; omega
  have B32 : Hid (Abx wo30 (w.heap.size) (.bool true) (.slice sa1 sz1.length sc1) (.slice da1 dz1.length dc1)) := by rw [hwo30]; exact (B15.out.al (.cells #[.bool false, .slice f1 0 g1, .slice (some ⟨b21, ob21, none⟩) 1 g2] 25))
  have B33 : Hid (Abx wo30 (v2.heap.size) (.bool false) (.slice f1 0 g1) (.slice (some ⟨b21, ob21, none⟩) 1 g2)) := by rw [hwo30]; exact n22
  have L34 : Hid (MidC (v1.heap.size) (v2.heap.size) wo30 (f1) ([]) (g1)) := by rw [hwo30]; exact (L19.out.al (by omega) (.cells #[.bool false, .slice f1 0 g1, .slice (some ⟨b21, ob21, none⟩) 1 g2] 25))
  have L35 : Hid (MidC (v1.heap.size) (v2.heap.size) wo30 (some ⟨b21, ob21, none⟩) ([3]) (g2)) := by rw [hwo30]; exact (L20.out.al (by omega) (.cells #[.bool false, .slice f1 0 g1, .slice (some ⟨b21, ob21, none⟩) 1 g2] 25))
  have hb36 : Hid (Below w.heap.size w wo30) := by rw [hwo30]; exact (hb18.out.alloc (by omega) (.cells #[.bool false, .slice f1 0 g1, .slice (some ⟨b21, ob21, none⟩) 1 g2] 25))
  have zwo30 : w.heap.size ≤ wo30.heap.size := hb36.out.size
  clear hwo30 n22 l23 l24 l25 l26 l27 l28 l29 hb18 B15 L19 L20
  clear L34 L35 B33
  refine (check_ok true sa1 sc1 sz1 da1 dc1 dz1 x11 x12 _ ((HI1.out.1.1.below hb36.out).mono hb36.out.size) ((HI1.out.2.1.1.below hb36.out).mono hb36.out.size) F1.out).mono ?_
  rintro e v3 ⟨rfl, hB⟩
  have z37 : wo30.heap.size ≤ v3.heap.size := hB.size
  have B38 : Hid (Abx v3 (w.heap.size) (.bool true) (.slice sa1 sz1.length sc1) (.slice da1 dz1.length dc1)) := B32.out.go hB
  have hb39 : Hid (Below w.heap.size w v3) := hb36.out.trans (hB.mono hb36.out.size)
  clear hB hb36 B32
  have l0 := B38.out.c0
  go_wp2_with fail
  go_ret
  exact ⟨rfl, hb39.out⟩
set_option maxRecDepth 100000 in
set_option maxHeartbeats 8000000 in
theorem swings_rank (HRd : CRd) (c1 : Bool) (sa1 : Option Addr) (sc1 : Nat) (sz1 : List Int) (da1 : Option Addr) (dc1 : Nat) (dz1 : List Int) (w : World) (w8 : IsArrD w sa1 sz1 sc1 da1 dz1 dc1) (F1 : Hid (flawE c1 sz1 dz1 = 0)) (hc : c1 = false) (F2 : Hid (sz1.length ≠ 1)) :
    Calls Try.prog 4 #[.agg #[.bool c1, .slice sa1 sz1.length sc1, .slice da1 dz1.length dc1]] w fun e w' => e = .returned (.bool true) ∧ Below w.heap.size w w' := by
  subst hc
  have t1 : ((sz1.length : Int) != 1) = true := by have := F2.out; simp; omega
  obtain ⟨x11, x12, x3, x4, s64, T⟩ := w8
  have HI1 : Hid (IsC w.heap.size w sa1 sz1 sc1 ∧ IsC w.heap.size w da1 dz1 dc1 ∧ (∀ j, In64 (nth sz1 j)) ∧ ∀ j, In64 (nth dz1 j)) := ⟨x3, x4, s64, T⟩
  clear x3 x4 T s64
  have n1 := Abx.new w (.bool false) (.slice sa1 sz1.length sc1) (.slice da1 dz1.length dc1)
  have n2 := lit_mid (w.alloc (.cells #[.bool false, .slice sa1 sz1.length sc1, .slice da1 dz1.length dc1] 25)) 3 [5, 3, 1] 3 rfl
  simp only [World.size_alloc, List.map_cons, List.map_nil] at n2
  go_enter Try.func4, Try.ntmps4
  go_wp2_with fail
  obtain ⟨wo3, hwo3⟩ : ∃ wo3, wo3 = ((w.alloc (.cells #[.bool false, .slice sa1 sz1.length sc1, .slice da1 dz1.length dc1] 25)).alloc (.cells #[.int .i64 5, .int .i64 3, .int .i64 1] 3)) := ⟨_, rfl⟩
  rw [← hwo3]
  have z4 : w.heap.size + 1 + 1 ≤ wo3.heap.size := by rw [hwo3]; simp only [World.size_alloc]; omega
  have B5 : Hid (Abx wo3 (w.heap.size) (.bool false) (.slice sa1 sz1.length sc1) (.slice da1 dz1.length dc1)) := by rw [hwo3]; exact (n1.al (.cells #[.int .i64 5, .int .i64 3, .int .i64 1] 3))
  have L6 : Hid (MidC (w.heap.size + 1) (w.heap.size + 1 + 1) wo3 (some ⟨w.heap.size + 1, 0, none⟩) ([5, 3, 1]) (3)) := by rw [hwo3]; exact n2
  have hb7 : Hid (Below w.heap.size w wo3) := by rw [hwo3]; exact (((Below.refl w.heap.size w).alloc (by omega) (.cells #[.bool false, .slice sa1 sz1.length sc1, .slice da1 dz1.length dc1] 25)).alloc (by simp only [World.size_alloc]; omega) (.cells #[.int .i64 5, .int .i64 3, .int .i64 1] 3))
  have zwo3 : w.heap.size ≤ wo3.heap.size := hb7.out.size
  clear hwo3 n1 n2
  refine (vec_c (some ⟨w.heap.size + 1, 0, none⟩) 3 [5, 3, 1] (by simp) _ (L6.out.is (by omega)).1).mono ?_
  rintro e v1 ⟨vap, vcp, gap, gcp, rfl, hVp, hGp, hB⟩
  have z8 : wo3.heap.size ≤ v1.heap.size := hB.size
  have B9 : Hid (Abx v1 (w.heap.size) (.bool false) (.slice sa1 sz1.length sc1) (.slice da1 dz1.length dc1)) := B5.out.go hB
  have L10 : Hid (MidC (w.heap.size + 1) (w.heap.size + 1 + 1) v1 (some ⟨w.heap.size + 1, 0, none⟩) ([5, 3, 1]) (3)) := L6.out.go (by omega) hB
  have hb11 : Hid (Below w.heap.size w v1) := hb7.out.trans (hB.mono hb7.out.size)
  have L12 : Hid (MidC (wo3.heap.size) (v1.heap.size) v1 (vap) ([(3 : Int)]) (vcp)) := hVp.midc
  have L13 : Hid (MidC (wo3.heap.size) (v1.heap.size) v1 (gap) ([5, 3, 1]) (gcp)) := hGp.midc
  clear hB hb7 B5 L6 hVp hGp
  clear L10
  go_wp2_with fail
  refine (rdw_ok 2 0 false vap vcp [(3 : Int)] 1 rfl gap gcp [5, 3, 1] 3 rfl _ (by unfold In64; decide) (by unfold In64; decide) (by decide) (by decide) (L12.out.is (by omega)) (L13.out.is (by omega)).1 (lit12 (by decide)) [] [3] HRd (by show rdE 2 0 false [(3 : Int)] [5, 3, 1] = 0 ∧ xout (0 : Int).toNat [(3 : Int)] = [] ∧ rdD 2 [(3 : Int)] [5, 3, 1] (0 : Int).toNat = [3]; decide +kernel)).mono ?_
  rintro e v2 ⟨f1, g1, f2, g2, rfl, hX0, hY0, hB⟩
  have z14 : v1.heap.size ≤ v2.heap.size := hB.size
  have B15 : Hid (Abx v2 (w.heap.size) (.bool false) (.slice sa1 sz1.length sc1) (.slice da1 dz1.length dc1)) := B9.out.go hB
  have L16 : Hid (MidC (wo3.heap.size) (v1.heap.size) v2 (vap) ([(3 : Int)]) (vcp)) := L12.out.go (by omega) hB
  have L17 : Hid (MidC (wo3.heap.size) (v1.heap.size) v2 (gap) ([5, 3, 1]) (gcp)) := L13.out.go (by omega) hB
  have hb18 : Hid (Below w.heap.size w v2) := hb11.out.trans (hB.mono hb11.out.size)
  have L19 : Hid (MidC (v1.heap.size) (v2.heap.size) v2 (f1) ([]) (g1)) := hX0.midc
  have L20 : Hid (MidC (v1.heap.size) (v2.heap.size) v2 (f2) ([3]) (g2)) := hY0.midc
  clear hB hb11 B9 L12 L13 hX0 hY0
  clear L16 L17
  obtain ⟨b21, ob21, rfl, _, _, _, _⟩ := L20.out.at (i := 0) (by decide)
  have n22 := Abx.new v2 (.bool false) (.slice f1 0 g1) (.slice (some ⟨b21, ob21, none⟩) 1 g2)
  have l23 := (n22).c0
  have l24 := (n22).c1
  have l25 := (n22).c2
  obtain ⟨_, _, l26e, _, _, l26, _⟩ := ((L20.out.al (by omega) (.cells #[.bool false, .slice f1 0 g1, .slice (some ⟨b21, ob21, none⟩) 1 g2] 25))).at (i := 0) (by decide)
  cases l26e
  try simp only [Nat.add_zero] at l26
  have l27 := ((B15.out.al (.cells #[.bool false, .slice f1 0 g1, .slice (some ⟨b21, ob21, none⟩) 1 g2] 25))).c0
  have l28 := ((B15.out.al (.cells #[.bool false, .slice f1 0 g1, .slice (some ⟨b21, ob21, none⟩) 1 g2] 25))).c1
  have l29 := ((B15.out.al (.cells #[.bool false, .slice f1 0 g1, .slice (some ⟨b21, ob21, none⟩) 1 g2] 25))).c2
  go_wp2_with fail
  obtain ⟨wo30, hwo30⟩ : ∃ wo30, wo30 = (v2.alloc (.cells #[.bool false, .slice f1 0 g1, .slice (some ⟨b21, ob21, none⟩) 1 g2] 25)) := ⟨_, rfl⟩
  rw [← hwo30]
  have z31 : v2.heap.size + 1 ≤ wo30.heap.size := by rw [hwo30]; simp only [World.size_alloc]; omega
  have B32 : Hid (Abx wo30 (w.heap.size) (.bool false) (.slice sa1 sz1.length sc1) (.slice da1 dz1.length dc1)) := by rw [hwo30]; exact (B15.out.al (.cells #[.bool false, .slice f1 0 g1, .slice (some ⟨b21, ob21, none⟩) 1 g2] 25))
  have B33 : Hid (Abx wo30 (v2.heap.size) (.bool false) (.slice f1 0 g1) (.slice (some ⟨b21, ob21, none⟩) 1 g2)) := by rw [hwo30]; exact n22
  have L34 : Hid (MidC (v1.heap.size) (v2.heap.size) wo30 (f1) ([]) (g1)) := by rw [hwo30]; exact (L19.out.al (by omega) (.cells #[.bool false, .slice f1 0 g1, .slice (some ⟨b21, ob21, none⟩) 1 g2] 25))
  have L35 : Hid (MidC (v1.heap.size) (v2.heap.size) wo30 (some ⟨b21, ob21, none⟩) ([3]) (g2)) := by rw [hwo30]; exact (L20.out.al (by omega) (.cells #[.bool false, .slice f1 0 g1, .slice (some ⟨b21, ob21, none⟩) 1 g2] 25))
  have hb36 : Hid (Below w.heap.size w wo30) := by rw [hwo30]; exact (hb18.out.alloc (by omega) (.cells #[.bool false, .slice f1 0 g1, .slice (some ⟨b21, ob21, none⟩) 1 g2] 25))
  have zwo30 : w.heap.size ≤ wo30.heap.size := hb36.out.size
  clear hwo30 n22 l23 l24 l25 l26 l27 l28 l29 hb18 B15 L19 L20
  clear L34 L35 B33
  refine (check_ok false sa1 sc1 sz1 da1 dc1 dz1 x11 x12 _ ((HI1.out.1.1.below hb36.out).mono hb36.out.size) ((HI1.out.2.1.1.below hb36.out).mono hb36.out.size) F1.out).mono ?_
  rintro e v3 ⟨rfl, hB⟩
  have z37 : wo30.heap.size ≤ v3.heap.size := hB.size
  have B38 : Hid (Abx v3 (w.heap.size) (.bool false) (.slice sa1 sz1.length sc1) (.slice da1 dz1.length dc1)) := B32.out.go hB
  have hb39 : Hid (Below w.heap.size w v3) := hb36.out.trans (hB.mono hb36.out.size)
  clear hB hb36 B32
  have l0 := B38.out.c0
  have l1 := B38.out.c1
  go_wp2_with fail
  go_ret
  exact ⟨rfl, hb39.out⟩
set_option maxRecDepth 100000 in
set_option maxHeartbeats 8000000 in
theorem swings_ok (HRd : CRd) (c1 : Bool) (sa1 : Option Addr) (sc1 : Nat) (sz1 : List Int) (da1 : Option Addr) (dc1 : Nat) (dz1 : List Int) (w : World) (w8 : IsArrD w sa1 sz1 sc1 da1 dz1 dc1) (F1 : Hid (flawE c1 sz1 dz1 = 0)) (hc : c1 = false) (F2 : Hid (sz1.length = 1)) :
    Calls Try.prog 4 #[.agg #[.bool c1, .slice sa1 sz1.length sc1, .slice da1 dz1.length dc1]] w fun e w' => e = .returned (.bool true) ∧ Below w.heap.size w w' := by
  subst hc
  obtain ⟨M, hMs, hM⟩ := one_axis F1.out F2.out
  have HSz : Hid (sz1 = [(M : Int)] ∧ M = dz1.length ∧ flawE false [(M : Int)] dz1 = 0) := ⟨hMs, hM, by rw [← hMs]; exact F1.out⟩
  have T1 := w8.2.2.2.2.2
  have hM4 : dz1.length ≤ 4096 := (flawE_short F1.out).2
  have t1 : ((sz1.length : Int) != 1) = false := by rw [F2.out]; rfl
  clear hMs hM
  have HSw : Hid (rdE 2 0 false sz1 dz1 = 0 ∧ xout (0 : Int).toNat sz1 = [] ∧ rdD 2 sz1 dz1 (0 : Int).toNat = [wrap64 (altI dz1)]) := by rw [HSz.out.1]; exact swings HSz.out.2.2 T1
  clear T1
  obtain ⟨x11, x12, x3, x4, s64, T⟩ := w8
  have HI1 : Hid (IsC w.heap.size w sa1 sz1 sc1 ∧ IsC w.heap.size w da1 dz1 dc1 ∧ (∀ j, In64 (nth sz1 j)) ∧ ∀ j, In64 (nth dz1 j)) := ⟨x3, x4, s64, T⟩
  clear x3 x4 T s64
  have n1 := Abx.new w (.bool false) (.slice sa1 sz1.length sc1) (.slice da1 dz1.length dc1)
  have n2 := lit_mid (w.alloc (.cells #[.bool false, .slice sa1 sz1.length sc1, .slice da1 dz1.length dc1] 25)) 3 [5, 3, 1] 3 rfl
  simp only [World.size_alloc, List.map_cons, List.map_nil] at n2
  go_enter Try.func4, Try.ntmps4
  go_wp2_with fail
  obtain ⟨wo3, hwo3⟩ : ∃ wo3, wo3 = ((w.alloc (.cells #[.bool false, .slice sa1 sz1.length sc1, .slice da1 dz1.length dc1] 25)).alloc (.cells #[.int .i64 5, .int .i64 3, .int .i64 1] 3)) := ⟨_, rfl⟩
  rw [← hwo3]
  have z4 : w.heap.size + 1 + 1 ≤ wo3.heap.size := by rw [hwo3]; simp only [World.size_alloc]; omega
  have B5 : Hid (Abx wo3 (w.heap.size) (.bool false) (.slice sa1 sz1.length sc1) (.slice da1 dz1.length dc1)) := by rw [hwo3]; exact (n1.al (.cells #[.int .i64 5, .int .i64 3, .int .i64 1] 3))
  have L6 : Hid (MidC (w.heap.size + 1) (w.heap.size + 1 + 1) wo3 (some ⟨w.heap.size + 1, 0, none⟩) ([5, 3, 1]) (3)) := by rw [hwo3]; exact n2
  have hb7 : Hid (Below w.heap.size w wo3) := by rw [hwo3]; exact (((Below.refl w.heap.size w).alloc (by omega) (.cells #[.bool false, .slice sa1 sz1.length sc1, .slice da1 dz1.length dc1] 25)).alloc (by simp only [World.size_alloc]; omega) (.cells #[.int .i64 5, .int .i64 3, .int .i64 1] 3))
  have zwo3 : w.heap.size ≤ wo3.heap.size := hb7.out.size
  clear hwo3 n1 n2
  refine (vec_c (some ⟨w.heap.size + 1, 0, none⟩) 3 [5, 3, 1] (by simp) _ (L6.out.is (by omega)).1).mono ?_
  rintro e v1 ⟨vap, vcp, gap, gcp, rfl, hVp, hGp, hB⟩
  have z8 : wo3.heap.size ≤ v1.heap.size := hB.size
  have B9 : Hid (Abx v1 (w.heap.size) (.bool false) (.slice sa1 sz1.length sc1) (.slice da1 dz1.length dc1)) := B5.out.go hB
  have L10 : Hid (MidC (w.heap.size + 1) (w.heap.size + 1 + 1) v1 (some ⟨w.heap.size + 1, 0, none⟩) ([5, 3, 1]) (3)) := L6.out.go (by omega) hB
  have hb11 : Hid (Below w.heap.size w v1) := hb7.out.trans (hB.mono hb7.out.size)
  have L12 : Hid (MidC (wo3.heap.size) (v1.heap.size) v1 (vap) ([(3 : Int)]) (vcp)) := hVp.midc
  have L13 : Hid (MidC (wo3.heap.size) (v1.heap.size) v1 (gap) ([5, 3, 1]) (gcp)) := hGp.midc
  clear hB hb7 B5 L6 hVp hGp
  clear L10
  go_wp2_with fail
  refine (rdw_ok 2 0 false vap vcp [(3 : Int)] 1 rfl gap gcp [5, 3, 1] 3 rfl _ (by unfold In64; decide) (by unfold In64; decide) (by decide) (by decide) (L12.out.is (by omega)) (L13.out.is (by omega)).1 (lit12 (by decide)) [] [3] HRd (by show rdE 2 0 false [(3 : Int)] [5, 3, 1] = 0 ∧ xout (0 : Int).toNat [(3 : Int)] = [] ∧ rdD 2 [(3 : Int)] [5, 3, 1] (0 : Int).toNat = [3]; decide +kernel)).mono ?_
  rintro e v2 ⟨f1, g1, f2, g2, rfl, hX0, hY0, hB⟩
  have z14 : v1.heap.size ≤ v2.heap.size := hB.size
  have B15 : Hid (Abx v2 (w.heap.size) (.bool false) (.slice sa1 sz1.length sc1) (.slice da1 dz1.length dc1)) := B9.out.go hB
  have L16 : Hid (MidC (wo3.heap.size) (v1.heap.size) v2 (vap) ([(3 : Int)]) (vcp)) := L12.out.go (by omega) hB
  have L17 : Hid (MidC (wo3.heap.size) (v1.heap.size) v2 (gap) ([5, 3, 1]) (gcp)) := L13.out.go (by omega) hB
  have hb18 : Hid (Below w.heap.size w v2) := hb11.out.trans (hB.mono hb11.out.size)
  have L19 : Hid (MidC (v1.heap.size) (v2.heap.size) v2 (f1) ([]) (g1)) := hX0.midc
  have L20 : Hid (MidC (v1.heap.size) (v2.heap.size) v2 (f2) ([3]) (g2)) := hY0.midc
  clear hB hb11 B9 L12 L13 hX0 hY0
  clear L16 L17
  obtain ⟨b21, ob21, rfl, _, _, _, _⟩ := L20.out.at (i := 0) (by decide)
  have n22 := Abx.new v2 (.bool false) (.slice f1 0 g1) (.slice (some ⟨b21, ob21, none⟩) 1 g2)
  have l23 := (n22).c0
  have l24 := (n22).c1
  have l25 := (n22).c2
  obtain ⟨_, _, l26e, _, _, l26, _⟩ := ((L20.out.al (by omega) (.cells #[.bool false, .slice f1 0 g1, .slice (some ⟨b21, ob21, none⟩) 1 g2] 25))).at (i := 0) (by decide)
  cases l26e
  try simp only [Nat.add_zero] at l26
  have l27 := ((B15.out.al (.cells #[.bool false, .slice f1 0 g1, .slice (some ⟨b21, ob21, none⟩) 1 g2] 25))).c0
  have l28 := ((B15.out.al (.cells #[.bool false, .slice f1 0 g1, .slice (some ⟨b21, ob21, none⟩) 1 g2] 25))).c1
  have l29 := ((B15.out.al (.cells #[.bool false, .slice f1 0 g1, .slice (some ⟨b21, ob21, none⟩) 1 g2] 25))).c2
  go_wp2_with fail
  obtain ⟨wo30, hwo30⟩ : ∃ wo30, wo30 = (v2.alloc (.cells #[.bool false, .slice f1 0 g1, .slice (some ⟨b21, ob21, none⟩) 1 g2] 25)) := ⟨_, rfl⟩
  rw [← hwo30]
  have z31 : v2.heap.size + 1 ≤ wo30.heap.size := by rw [hwo30]; simp only [World.size_alloc]; omega
  have B32 : Hid (Abx wo30 (w.heap.size) (.bool false) (.slice sa1 sz1.length sc1) (.slice da1 dz1.length dc1)) := by rw [hwo30]; exact (B15.out.al (.cells #[.bool false, .slice f1 0 g1, .slice (some ⟨b21, ob21, none⟩) 1 g2] 25))
  have B33 : Hid (Abx wo30 (v2.heap.size) (.bool false) (.slice f1 0 g1) (.slice (some ⟨b21, ob21, none⟩) 1 g2)) := by rw [hwo30]; exact n22
  have L34 : Hid (MidC (v1.heap.size) (v2.heap.size) wo30 (f1) ([]) (g1)) := by rw [hwo30]; exact (L19.out.al (by omega) (.cells #[.bool false, .slice f1 0 g1, .slice (some ⟨b21, ob21, none⟩) 1 g2] 25))
  have L35 : Hid (MidC (v1.heap.size) (v2.heap.size) wo30 (some ⟨b21, ob21, none⟩) ([3]) (g2)) := by rw [hwo30]; exact (L20.out.al (by omega) (.cells #[.bool false, .slice f1 0 g1, .slice (some ⟨b21, ob21, none⟩) 1 g2] 25))
  have hb36 : Hid (Below w.heap.size w wo30) := by rw [hwo30]; exact (hb18.out.alloc (by omega) (.cells #[.bool false, .slice f1 0 g1, .slice (some ⟨b21, ob21, none⟩) 1 g2] 25))
  have zwo30 : w.heap.size ≤ wo30.heap.size := hb36.out.size
  clear hwo30 n22 l23 l24 l25 l26 l27 l28 l29 hb18 B15 L19 L20
  clear L34 L35 B33
  refine (check_ok false sa1 sc1 sz1 da1 dc1 dz1 x11 x12 _ ((HI1.out.1.1.below hb36.out).mono hb36.out.size) ((HI1.out.2.1.1.below hb36.out).mono hb36.out.size) F1.out).mono ?_
  rintro e v3 ⟨rfl, hB⟩
  have z37 : wo30.heap.size ≤ v3.heap.size := hB.size
  have B38 : Hid (Abx v3 (w.heap.size) (.bool false) (.slice sa1 sz1.length sc1) (.slice da1 dz1.length dc1)) := B32.out.go hB
  have hb39 : Hid (Below w.heap.size w v3) := hb36.out.trans (hB.mono hb36.out.size)
  clear hB hb36 B32
  have l40 := (B38.out).c0
  have l41 := (B38.out).c1
  have l42 := (B38.out).c2
  go_wp2_with fail
  clear l40 l41 l42
  have l2 := B38.out.c2
  go_loopw [5, 6] (fun x i wr => ∃ k : Nat, k ≤ dz1.length ∧ i = .int .i64 k ∧ x = .int .i64 (wrap64 (altI (dz1.take k))) ∧ wr = v3) (fun _ i _ => dz1.length - (intOf i).toNat)
  case atStart => exact ⟨0, Nat.zero_le _, rfl, by simp [altI, wrap64], rfl⟩
  case round =>
    obtain ⟨k, hk, rfl, rfl, hw⟩ := hrel
    obtain rfl := hw.symm
    clear hw
    by_cases hlt : k < dz1.length
    · have hI := ((HI1.out.2.1.1.below hb39.out).mono hb39.out.size)
      obtain ⟨bd, od, rfl, _, hcD⟩ := hI.at hlt
      have cd := hcD k hlt
      clear hcD hI
      by_cases hp : k % 2 = 0
      · have e1 : ((k : Int).tmod 2 == 0) = true := by rw [Int.tmod_eq_emod_of_nonneg (by omega)]; simp; omega
        have e2 : ((k : Int) % 2 == 0) = true := by simp; omega
        have HN : Hid (wrap64 (wrap64 (altI (dz1.take k)) + nth dz1 k) = wrap64 (altI (dz1.take (k + 1)))) := alt_even hlt hp
        clear hp
        generalize wrap64 (altI (dz1.take k)) = X at *
        go_wp2_with fail
        exact ⟨⟨k + 1, by omega, by go_num, by rw [HN.out], by first | rfl | trivial⟩, by simp [intOf]; omega⟩
      · have e1 : ((k : Int).tmod 2 == 0) = false := by rw [Int.tmod_eq_emod_of_nonneg (by omega)]; simp; omega
        have e2 : ((k : Int) % 2 == 0) = false := by simp; omega
        have HN : Hid (wrap64 (wrap64 (altI (dz1.take k)) - nth dz1 k) = wrap64 (altI (dz1.take (k + 1)))) := alt_odd hlt hp
        clear hp
        generalize wrap64 (altI (dz1.take k)) = X at *
        go_wp2_with fail
        exact ⟨⟨k + 1, by omega, by go_num, by rw [HN.out], by first | rfl | trivial⟩, by simp [intOf]; omega⟩
    · obtain rfl : k = dz1.length := by omega
      rw [List.take_length]
      obtain ⟨X, hX⟩ : ∃ X, X = wrap64 (altI dz1) := ⟨_, rfl⟩
      rw [← hX] at HSw ⊢
      clear hX hlt hk
      have l43 := (B38.out).c0
      have l44 := (B38.out).c1
      have l45 := (B38.out).c2
      go_wp2_with fail
      clear l43 l44 l45 l2
      refine (rdw_ok 2 0 false sa1 sc1 sz1 sz1.length rfl da1 dc1 dz1 dz1.length rfl _ (by unfold In64; decide) (by unfold In64; decide) x11 x12 ((HI1.out.1.below hb39.out).mono hb39.out.size) ((HI1.out.2.1.1.below hb39.out).mono hb39.out.size) HI1.out.2.2.2 [] [X] HRd HSw.out).mono ?_
      rintro e v4 ⟨xa1, xc1, ya1, yc1, rfl, hX1, hY1, hB⟩
      have z46 : v3.heap.size ≤ v4.heap.size := hB.size
      have B47 : Hid (Abx v4 (w.heap.size) (.bool false) (.slice sa1 sz1.length sc1) (.slice da1 dz1.length dc1)) := B38.out.go hB
      have hb48 : Hid (Below w.heap.size w v4) := hb39.out.trans (hB.mono hb39.out.size)
      have L49 : Hid (MidC (v3.heap.size) (v4.heap.size) v4 (xa1) ([]) (xc1)) := hX1.midc
      have L50 : Hid (MidC (v3.heap.size) (v4.heap.size) v4 (ya1) ([X]) (yc1)) := hY1.midc
      clear hB hb39 B38 hX1 hY1
      obtain ⟨b51, ob51, rfl, _, _, _, _⟩ := L50.out.at (i := 0) (by simp)
      have n52 := Abx.new v4 (.bool false) (.slice xa1 0 xc1) (.slice (some ⟨b51, ob51, none⟩) 1 yc1)
      have l53 := (n52).c0
      have l54 := (n52).c1
      have l55 := (n52).c2
      obtain ⟨_, _, l56e, _, _, l56, _⟩ := ((L50.out.al (by omega) (.cells #[.bool false, .slice xa1 0 xc1, .slice (some ⟨b51, ob51, none⟩) 1 yc1] 25))).at (i := 0) (by simp)
      cases l56e
      try simp only [Nat.add_zero] at l56
      go_wp2_with fail
      obtain ⟨wo57, hwo57⟩ : ∃ wo57, wo57 = (v4.alloc (.cells #[.bool false, .slice xa1 0 xc1, .slice (some ⟨b51, ob51, none⟩) 1 yc1] 25)) := ⟨_, rfl⟩
      rw [← hwo57]
      have z58 : v4.heap.size + 1 ≤ wo57.heap.size := by rw [hwo57]; simp only [World.size_alloc]; omega
      have B59 : Hid (Abx wo57 (w.heap.size) (.bool false) (.slice sa1 sz1.length sc1) (.slice da1 dz1.length dc1)) := by rw [hwo57]; exact (B47.out.al (.cells #[.bool false, .slice xa1 0 xc1, .slice (some ⟨b51, ob51, none⟩) 1 yc1] 25))
      have B60 : Hid (Abx wo57 (v4.heap.size) (.bool false) (.slice xa1 0 xc1) (.slice (some ⟨b51, ob51, none⟩) 1 yc1)) := by rw [hwo57]; exact n52
      have L61 : Hid (MidC (v3.heap.size) (v4.heap.size) wo57 (xa1) ([]) (xc1)) := by rw [hwo57]; exact (L49.out.al (by omega) (.cells #[.bool false, .slice xa1 0 xc1, .slice (some ⟨b51, ob51, none⟩) 1 yc1] 25))
      have L62 : Hid (MidC (v3.heap.size) (v4.heap.size) wo57 (some ⟨b51, ob51, none⟩) ([X]) (yc1)) := by rw [hwo57]; exact (L50.out.al (by omega) (.cells #[.bool false, .slice xa1 0 xc1, .slice (some ⟨b51, ob51, none⟩) 1 yc1] 25))
      have hb63 : Hid (Below w.heap.size w wo57) := by rw [hwo57]; exact (hb48.out.alloc (by omega) (.cells #[.bool false, .slice xa1 0 xc1, .slice (some ⟨b51, ob51, none⟩) 1 yc1] 25))
      have zwo57 : w.heap.size ≤ wo57.heap.size := hb63.out.size
      clear hwo57 n52 l53 l54 l55 l56 hb48 B47 L49 L50
      go_ret
      exact ⟨by show Ending.returned (.bool (nth [X] 0 == X)) = _; rw [show nth [X] 0 = X from rfl]; simp, hb63.out⟩
theorem fswings_walk (HRd : CRd) (c1 : Bool) (sa1 : Option Addr) (sc1 : Nat) (sz1 : List Int) (da1 : Option Addr) (dc1 : Nat) (dz1 : List Int) (w : World) (w8 : IsArrD w sa1 sz1 sc1 da1 dz1 dc1) :
    Calls Try.prog 4 #[.agg #[.bool c1, .slice sa1 sz1.length sc1, .slice da1 dz1.length dc1]] w fun e w' => e = .returned (.bool true) ∧ Below w.heap.size w w' := by
  by_cases h1 : flawE c1 sz1 dz1 = 0
  · by_cases hc : c1 = true
    · exact swings_char HRd c1 sa1 sc1 sz1 da1 dc1 dz1 w w8 h1 hc
    · by_cases h2 : sz1.length = 1
      · exact swings_ok HRd c1 sa1 sc1 sz1 da1 dc1 dz1 w w8 h1 (by simpa using hc) h2
      · exact swings_rank HRd c1 sa1 sc1 sz1 da1 dc1 dz1 w w8 h1 (by simpa using hc) h2
  · exact swings_flaw HRd c1 sa1 sc1 sz1 da1 dc1 dz1 w w8 h1
end Go.Proofs.Ytmbgomljofngnac
