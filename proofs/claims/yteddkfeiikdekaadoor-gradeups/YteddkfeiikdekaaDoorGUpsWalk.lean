/-
  The walk of the statement GradeUps, given what the program tells.
-/
import Derived.Test.YteddkfeiikdekaaDoorGrdi
namespace Go.Proofs.YteddkfeiikdekaaDoor
open Go.RowKit
set_option linter.unusedVariables false

set_option maxRecDepth 100000 in
set_option maxHeartbeats 8000000 in
theorem gups_walk (HU : CUp) (HD : CDn) (c1 : Bool) (sa1 : Option Addr) (sc1 : Nat) (sz1 : List Int) (da1 : Option Addr) (dc1 : Nat) (dz1 : List Int) (w : World) (hg : HasErr w) (w8 : IsArrD w sa1 sz1 sc1 da1 dz1 dc1) :
    Calls Tryd.prog 3 #[.agg #[.bool c1, .slice sa1 sz1.length sc1, .slice da1 dz1.length dc1]] w fun e w' => e = .returned (.bool true) ∧ Below w.heap.size w w' := by
  obtain ⟨x11, x12, x3, x4, s64, T⟩ := w8
  have HI1 : Hid (IsC w.heap.size w sa1 sz1 sc1 ∧ IsC w.heap.size w da1 dz1 dc1 ∧ (∀ j, In64 (nth sz1 j)) ∧ ∀ j, In64 (nth dz1 j)) := ⟨x3, x4, s64, T⟩
  clear x3 x4 T s64
  have HG : Hid (HasErr w) := hg
  clear hg
  obtain ⟨E, hE⟩ : ∃ E, gdE c1 sz1 dz1 = E := ⟨_, rfl⟩
  obtain ⟨L, hL⟩ : ∃ L, onL (gdE c1 sz1 dz1) (gdO false sz1 dz1) = L := ⟨_, rfl⟩
  obtain ⟨M, hM⟩ : ∃ M, onL (gdE c1 sz1 dz1) (gdO true sz1 dz1) = M := ⟨_, rfl⟩
  have HL : Hid (gdE c1 sz1 dz1 = E ∧ onL (gdE c1 sz1 dz1) (gdO false sz1 dz1) = L) := ⟨hE, hL⟩
  have HM : Hid (gdE c1 sz1 dz1 = E ∧ onL (gdE c1 sz1 dz1) (gdO true sz1 dz1) = M) := ⟨hE, hM⟩
  have lL : L.length ≤ 4096 := gd_len hL
  have lM : M.length ≤ 4096 := gd_len hM
  clear hE hL hM
  have n1 := Abx.new w (.bool c1) (.slice sa1 sz1.length sc1) (.slice da1 dz1.length dc1)
  have l2 := (n1).c0
  have l3 := (n1).c1
  have l4 := (n1).c2
  go_enter Tryd.func3, Tryd.ntmps3
  go_wp2_with fail
  obtain ⟨wo5, hwo5⟩ : ∃ wo5, wo5 = (w.alloc (.cells #[.bool c1, .slice sa1 sz1.length sc1, .slice da1 dz1.length dc1] 24)) := ⟨_, rfl⟩
  rw [← hwo5]
  have z6 : w.heap.size + 1 ≤ wo5.heap.size := by rw [hwo5]; simp only [World.size_alloc]; omega
  have B7 : Hid (Abx wo5 (w.heap.size) (.bool c1) (.slice sa1 sz1.length sc1) (.slice da1 dz1.length dc1)) := by rw [hwo5]; exact n1
  have hb8 : Hid (Below w.heap.size w wo5) := by rw [hwo5]; exact ((Below.refl w.heap.size w).alloc (by omega) (.cells #[.bool c1, .slice sa1 sz1.length sc1, .slice da1 dz1.length dc1] 24))
  have zwo5 : w.heap.size ≤ wo5.heap.size := hb8.out.size
  clear hwo5 n1 l2 l3 l4
  refine (grg false c1 sa1 sc1 sz1 da1 dc1 dz1 _ x11 x12 ((HI1.out.1.below hb8.out).mono hb8.out.size) ((HI1.out.2.1.below hb8.out).mono hb8.out.size) E L HL.out).mono ?_
  rintro e v1 ⟨g1, h1, rfl, hN1, hB⟩
  have z9 : wo5.heap.size ≤ v1.heap.size := hB.size
  have B10 : Hid (Abx v1 (w.heap.size) (.bool c1) (.slice sa1 sz1.length sc1) (.slice da1 dz1.length dc1)) := B7.out.go hB
  have hb11 : Hid (Below w.heap.size w v1) := hb8.out.trans (hB.mono hb8.out.size)
  have L12 : Hid (MidC (wo5.heap.size) (v1.heap.size) v1 (g1) (L) (h1)) := hN1.midc
  clear hB hb8 B7 hN1
  have l13 := (B10.out).c0
  have l14 := (B10.out).c1
  have l15 := (B10.out).c2
  go_wp2_with fail
  clear l13 l14 l15
  refine (upg HU c1 sa1 sc1 sz1 da1 dc1 dz1 _ x11 x12 ((HI1.out.1.below hb11.out).mono hb11.out.size) ((HI1.out.2.1.below hb11.out).mono hb11.out.size) E L HL.out).mono ?_
  rintro e v2 ⟨g2, h2, rfl, hN2, hB⟩
  have z16 : v1.heap.size ≤ v2.heap.size := hB.size
  have B17 : Hid (Abx v2 (w.heap.size) (.bool c1) (.slice sa1 sz1.length sc1) (.slice da1 dz1.length dc1)) := B10.out.go hB
  have L18 : Hid (MidC (wo5.heap.size) (v1.heap.size) v2 (g1) (L) (h1)) := L12.out.go (by omega) hB
  have hb19 : Hid (Below w.heap.size w v2) := hb11.out.trans (hB.mono hb11.out.size)
  have L20 : Hid (MidC (v1.heap.size) (v2.heap.size) v2 (g2) (L) (h2)) := hN2.midc
  clear hB hb11 B10 L12 hN2
  go_wp2_with fail
  refine (ints_same10 E g2 h2 L L.length rfl g1 h1 L.length rfl _ (HG.out.below hb19.out HG.out.pos) (by omega) (L20.out.is (by omega)).1 (L18.out.is (by omega)).1).mono ?_
  rintro e v3 ⟨rfl, hB⟩
  have z21 : v2.heap.size ≤ v3.heap.size := hB.size
  have B22 : Hid (Abx v3 (w.heap.size) (.bool c1) (.slice sa1 sz1.length sc1) (.slice da1 dz1.length dc1)) := B17.out.go hB
  have L23 : Hid (MidC (wo5.heap.size) (v1.heap.size) v3 (g1) (L) (h1)) := L18.out.go (by omega) hB
  have L24 : Hid (MidC (v1.heap.size) (v2.heap.size) v3 (g2) (L) (h2)) := L20.out.go (by omega) hB
  have hb25 : Hid (Below w.heap.size w v3) := hb19.out.trans (hB.mono hb19.out.size)
  clear hB hb19 B17 L18 L20
  clear L23 L24
  have l26 := (B22.out).c0
  have l27 := (B22.out).c1
  have l28 := (B22.out).c2
  go_wp2_with fail
  clear l26 l27 l28
  refine (grg true c1 sa1 sc1 sz1 da1 dc1 dz1 _ x11 x12 ((HI1.out.1.below hb25.out).mono hb25.out.size) ((HI1.out.2.1.below hb25.out).mono hb25.out.size) E M HM.out).mono ?_
  rintro e v4 ⟨g3, h3, rfl, hN3, hB⟩
  have z29 : v3.heap.size ≤ v4.heap.size := hB.size
  have B30 : Hid (Abx v4 (w.heap.size) (.bool c1) (.slice sa1 sz1.length sc1) (.slice da1 dz1.length dc1)) := B22.out.go hB
  have hb31 : Hid (Below w.heap.size w v4) := hb25.out.trans (hB.mono hb25.out.size)
  have L32 : Hid (MidC (v3.heap.size) (v4.heap.size) v4 (g3) (M) (h3)) := hN3.midc
  clear hB hb25 B22 hN3
  have l33 := (B30.out).c0
  have l34 := (B30.out).c1
  have l35 := (B30.out).c2
  go_wp2_with fail
  clear l33 l34 l35
  refine (dng HD c1 sa1 sc1 sz1 da1 dc1 dz1 _ x11 x12 ((HI1.out.1.below hb31.out).mono hb31.out.size) ((HI1.out.2.1.below hb31.out).mono hb31.out.size) E M HM.out).mono ?_
  rintro e v5 ⟨g4, h4, rfl, hN4, hB⟩
  have z36 : v4.heap.size ≤ v5.heap.size := hB.size
  have B37 : Hid (Abx v5 (w.heap.size) (.bool c1) (.slice sa1 sz1.length sc1) (.slice da1 dz1.length dc1)) := B30.out.go hB
  have L38 : Hid (MidC (v3.heap.size) (v4.heap.size) v5 (g3) (M) (h3)) := L32.out.go (by omega) hB
  have hb39 : Hid (Below w.heap.size w v5) := hb31.out.trans (hB.mono hb31.out.size)
  have L40 : Hid (MidC (v4.heap.size) (v5.heap.size) v5 (g4) (M) (h4)) := hN4.midc
  clear hB hb31 B30 L32 hN4
  go_wp2_with fail
  refine (ints_same10 E g4 h4 M M.length rfl g3 h3 M.length rfl _ (HG.out.below hb39.out HG.out.pos) (by omega) (L40.out.is (by omega)).1 (L38.out.is (by omega)).1).mono ?_
  rintro e v6 ⟨rfl, hB⟩
  have z41 : v5.heap.size ≤ v6.heap.size := hB.size
  have B42 : Hid (Abx v6 (w.heap.size) (.bool c1) (.slice sa1 sz1.length sc1) (.slice da1 dz1.length dc1)) := B37.out.go hB
  have L43 : Hid (MidC (v3.heap.size) (v4.heap.size) v6 (g3) (M) (h3)) := L38.out.go (by omega) hB
  have L44 : Hid (MidC (v4.heap.size) (v5.heap.size) v6 (g4) (M) (h4)) := L40.out.go (by omega) hB
  have hb45 : Hid (Below w.heap.size w v6) := hb39.out.trans (hB.mono hb39.out.size)
  clear hB hb39 B37 L38 L40
  clear L43 L44
  go_wp2_with fail
  go_ret
  exact ⟨rfl, hb45.out⟩
end Go.Proofs.YteddkfeiikdekaaDoor
