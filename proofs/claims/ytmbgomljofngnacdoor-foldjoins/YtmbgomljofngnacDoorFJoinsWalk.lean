/-
  The walk of the statement FoldJoins, given what the program tells.
-/
import Derived.Test.YtmbgomljofngnacDoorFldo
import Derived.Test.YtmbgomljofngnacDoorFldj
import Derived.Test.YtmbgomljofngnacDoorCutw
import Derived.Test.YtmbgomljofngnacDoorMidc
import Derived.Test.YtmbgomljofngnacDoorTurnw
import Derived.Test.YtmbgomljofngnacDoorErr
namespace Go.Proofs.YtmbgomljofngnacDoor
open Go.RowKit
set_option linter.unusedVariables false

set_option maxRecDepth 100000 in
set_option maxHeartbeats 8000000 in
theorem joins_no (HJn : CJn) (HRd : CRd) (H2 : C2d) (f x : Int) (hf : In64 f) (hx : In64 x) (c1 : Bool) (sa1 : Option Addr) (sc1 : Nat) (sz1 : List Int) (da1 : Option Addr) (dc1 : Nat) (dz1 : List Int) (c2 : Bool) (sa2 : Option Addr) (sc2 : Nat) (sz2 : List Int) (da2 : Option Addr) (dc2 : Nat) (dz2 : List Int) (w : World) (hg : HasErr w) (w8 : IsArrD w sa1 sz1 sc1 da1 dz1 dc1) (w9 : IsArrD w sa2 sz2 sc2 da2 dz2 dc2) (F1 : Hid (jnE x c1 sz1 dz1 c2 sz2 dz2 ≠ 0)) :
    Calls Tryd.prog 3 #[.int .i64 f, .int .i64 x, .agg #[.bool c1, .slice sa1 sz1.length sc1, .slice da1 dz1.length dc1], .agg #[.bool c2, .slice sa2 sz2.length sc2, .slice da2 dz2.length dc2]] w fun e w' => e = .returned (.bool true) ∧ Below w.heap.size w w' := by
  obtain ⟨x11, x12, x3, x4, s64, T⟩ := w8
  have HI1 : Hid (IsC w.heap.size w sa1 sz1 sc1 ∧ IsC w.heap.size w da1 dz1 dc1 ∧ (∀ j, In64 (nth sz1 j)) ∧ ∀ j, In64 (nth dz1 j)) := ⟨x3, x4, s64, T⟩
  clear x3 x4 T s64
  obtain ⟨x21, x22, x3, x4, s64, T⟩ := w9
  have HI2 : Hid (IsC w.heap.size w sa2 sz2 sc2 ∧ IsC w.heap.size w da2 dz2 dc2 ∧ (∀ j, In64 (nth sz2 j)) ∧ ∀ j, In64 (nth dz2 j)) := ⟨x3, x4, s64, T⟩
  clear x3 x4 T s64
  have HG : Hid (HasErr w) := hg
  clear hg
  have n1 := Abx.new w (.bool c1) (.slice sa1 sz1.length sc1) (.slice da1 dz1.length dc1)
  have n2 := Abx.new (w.alloc (.cells #[.bool c1, .slice sa1 sz1.length sc1, .slice da1 dz1.length dc1] 25)) (.bool c2) (.slice sa2 sz2.length sc2) (.slice da2 dz2.length dc2)
  simp only [World.size_alloc] at n2
  have n3 := lit_mid ((w.alloc (.cells #[.bool c1, .slice sa1 sz1.length sc1, .slice da1 dz1.length dc1] 25)).alloc (.cells #[.bool c2, .slice sa2 sz2.length sc2, .slice da2 dz2.length dc2] 25)) 3 [2, 3, 4] 3 rfl
  simp only [World.size_alloc, List.map_cons, List.map_nil] at n3
  go_enter Tryd.func3, Tryd.ntmps3
  go_wp2_with fail
  obtain ⟨wo4, hwo4⟩ : ∃ wo4, wo4 = (((w.alloc (.cells #[.bool c1, .slice sa1 sz1.length sc1, .slice da1 dz1.length dc1] 25)).alloc (.cells #[.bool c2, .slice sa2 sz2.length sc2, .slice da2 dz2.length dc2] 25)).alloc (.cells #[.int .i64 2, .int .i64 3, .int .i64 4] 3)) := ⟨_, rfl⟩
  rw [← hwo4]
  have z5 : w.heap.size + 1 + 1 + 1 ≤ wo4.heap.size := by rw [hwo4]; simp only [World.size_alloc]; omega
  have B6 : Hid (Abx wo4 (w.heap.size) (.bool c1) (.slice sa1 sz1.length sc1) (.slice da1 dz1.length dc1)) := by rw [hwo4]; exact ((n1.al (.cells #[.bool c2, .slice sa2 sz2.length sc2, .slice da2 dz2.length dc2] 25)).al (.cells #[.int .i64 2, .int .i64 3, .int .i64 4] 3))
  have B7 : Hid (Abx wo4 (w.heap.size + 1) (.bool c2) (.slice sa2 sz2.length sc2) (.slice da2 dz2.length dc2)) := by rw [hwo4]; exact (n2.al (.cells #[.int .i64 2, .int .i64 3, .int .i64 4] 3))
  have L8 : Hid (MidC (w.heap.size + 1 + 1) (w.heap.size + 1 + 1 + 1) wo4 (some ⟨w.heap.size + 1 + 1, 0, none⟩) ([2, 3, 4]) (3)) := by rw [hwo4]; exact n3
  have hb9 : Hid (Below w.heap.size w wo4) := by rw [hwo4]; exact ((((Below.refl w.heap.size w).alloc (by omega) (.cells #[.bool c1, .slice sa1 sz1.length sc1, .slice da1 dz1.length dc1] 25)).alloc (by simp only [World.size_alloc]; omega) (.cells #[.bool c2, .slice sa2 sz2.length sc2, .slice da2 dz2.length dc2] 25)).alloc (by simp only [World.size_alloc]; omega) (.cells #[.int .i64 2, .int .i64 3, .int .i64 4] 3))
  have zwo4 : w.heap.size ≤ wo4.heap.size := hb9.out.size
  clear hwo4 n1 n2 n3
  refine (vec_c (some ⟨w.heap.size + 1 + 1, 0, none⟩) 3 [2, 3, 4] (by simp) _ (L8.out.is (by omega)).1).mono ?_
  rintro e v1 ⟨vap, vcp, gap, gcp, rfl, hVp, hGp, hB⟩
  have z10 : wo4.heap.size ≤ v1.heap.size := hB.size
  have B11 : Hid (Abx v1 (w.heap.size) (.bool c1) (.slice sa1 sz1.length sc1) (.slice da1 dz1.length dc1)) := B6.out.go hB
  have B12 : Hid (Abx v1 (w.heap.size + 1) (.bool c2) (.slice sa2 sz2.length sc2) (.slice da2 dz2.length dc2)) := B7.out.go hB
  have L13 : Hid (MidC (w.heap.size + 1 + 1) (w.heap.size + 1 + 1 + 1) v1 (some ⟨w.heap.size + 1 + 1, 0, none⟩) ([2, 3, 4]) (3)) := L8.out.go (by omega) hB
  have hb14 : Hid (Below w.heap.size w v1) := hb9.out.trans (hB.mono hb9.out.size)
  have L15 : Hid (MidC (wo4.heap.size) (v1.heap.size) v1 (vap) ([(3 : Int)]) (vcp)) := hVp.midc
  have L16 : Hid (MidC (wo4.heap.size) (v1.heap.size) v1 (gap) ([2, 3, 4]) (gcp)) := hGp.midc
  clear hB hb9 B6 B7 L8 hVp hGp
  clear L13
  go_wp2_with fail
  refine (rdw_ok 3 0 false vap vcp [(3 : Int)] 1 rfl gap gcp [2, 3, 4] 3 rfl _ (by unfold In64; decide) (by unfold In64; decide) (by decide) (by decide) (L15.out.is (by omega)) (L16.out.is (by omega)).1 (lit12 (by decide)) [] [24] HRd (by show rdE 3 0 false [(3 : Int)] [2, 3, 4] = 0 ∧ xout (0 : Int).toNat [(3 : Int)] = [] ∧ rdD 3 [(3 : Int)] [2, 3, 4] (0 : Int).toNat = [24]; decide +kernel)).mono ?_
  rintro e v2 ⟨f1, g1, f2, g2, rfl, hX0, hY0, hB⟩
  have z17 : v1.heap.size ≤ v2.heap.size := hB.size
  have B18 : Hid (Abx v2 (w.heap.size) (.bool c1) (.slice sa1 sz1.length sc1) (.slice da1 dz1.length dc1)) := B11.out.go hB
  have B19 : Hid (Abx v2 (w.heap.size + 1) (.bool c2) (.slice sa2 sz2.length sc2) (.slice da2 dz2.length dc2)) := B12.out.go hB
  have L20 : Hid (MidC (wo4.heap.size) (v1.heap.size) v2 (vap) ([(3 : Int)]) (vcp)) := L15.out.go (by omega) hB
  have L21 : Hid (MidC (wo4.heap.size) (v1.heap.size) v2 (gap) ([2, 3, 4]) (gcp)) := L16.out.go (by omega) hB
  have hb22 : Hid (Below w.heap.size w v2) := hb14.out.trans (hB.mono hb14.out.size)
  have L23 : Hid (MidC (v1.heap.size) (v2.heap.size) v2 (f1) ([]) (g1)) := hX0.midc
  have L24 : Hid (MidC (v1.heap.size) (v2.heap.size) v2 (f2) ([24]) (g2)) := hY0.midc
  clear hB hb14 B11 B12 L15 L16 hX0 hY0
  clear L20 L21
  obtain ⟨b25, ob25, rfl, _, _, _, _⟩ := L24.out.at (i := 0) (by decide)
  have n26 := Abx.new v2 (.bool false) (.slice f1 0 g1) (.slice (some ⟨b25, ob25, none⟩) 1 g2)
  have l27 := (n26).c0
  have l28 := (n26).c1
  have l29 := (n26).c2
  obtain ⟨_, _, l30e, _, _, l30, _⟩ := ((L24.out.al (by omega) (.cells #[.bool false, .slice f1 0 g1, .slice (some ⟨b25, ob25, none⟩) 1 g2] 25))).at (i := 0) (by decide)
  cases l30e
  try simp only [Nat.add_zero] at l30
  have l31 := ((B18.out.al (.cells #[.bool false, .slice f1 0 g1, .slice (some ⟨b25, ob25, none⟩) 1 g2] 25))).c0
  have l32 := ((B18.out.al (.cells #[.bool false, .slice f1 0 g1, .slice (some ⟨b25, ob25, none⟩) 1 g2] 25))).c1
  have l33 := ((B18.out.al (.cells #[.bool false, .slice f1 0 g1, .slice (some ⟨b25, ob25, none⟩) 1 g2] 25))).c2
  have l34 := ((B19.out.al (.cells #[.bool false, .slice f1 0 g1, .slice (some ⟨b25, ob25, none⟩) 1 g2] 25))).c0
  have l35 := ((B19.out.al (.cells #[.bool false, .slice f1 0 g1, .slice (some ⟨b25, ob25, none⟩) 1 g2] 25))).c1
  have l36 := ((B19.out.al (.cells #[.bool false, .slice f1 0 g1, .slice (some ⟨b25, ob25, none⟩) 1 g2] 25))).c2
  go_wp2_with fail
  obtain ⟨wo37, hwo37⟩ : ∃ wo37, wo37 = (v2.alloc (.cells #[.bool false, .slice f1 0 g1, .slice (some ⟨b25, ob25, none⟩) 1 g2] 25)) := ⟨_, rfl⟩
  rw [← hwo37]
  have z38 : v2.heap.size + 1 ≤ wo37.heap.size := by rw [hwo37]; simp only [World.size_alloc]; omega
  have B39 : Hid (Abx wo37 (w.heap.size) (.bool c1) (.slice sa1 sz1.length sc1) (.slice da1 dz1.length dc1)) := by rw [hwo37]; exact (B18.out.al (.cells #[.bool false, .slice f1 0 g1, .slice (some ⟨b25, ob25, none⟩) 1 g2] 25))
  have B40 : Hid (Abx wo37 (w.heap.size + 1) (.bool c2) (.slice sa2 sz2.length sc2) (.slice da2 dz2.length dc2)) := by rw [hwo37]; exact (B19.out.al (.cells #[.bool false, .slice f1 0 g1, .slice (some ⟨b25, ob25, none⟩) 1 g2] 25))
  have B41 : Hid (Abx wo37 (v2.heap.size) (.bool false) (.slice f1 0 g1) (.slice (some ⟨b25, ob25, none⟩) 1 g2)) := by rw [hwo37]; exact n26
  have L42 : Hid (MidC (v1.heap.size) (v2.heap.size) wo37 (f1) ([]) (g1)) := by rw [hwo37]; exact (L23.out.al (by omega) (.cells #[.bool false, .slice f1 0 g1, .slice (some ⟨b25, ob25, none⟩) 1 g2] 25))
  have L43 : Hid (MidC (v1.heap.size) (v2.heap.size) wo37 (some ⟨b25, ob25, none⟩) ([24]) (g2)) := by rw [hwo37]; exact (L24.out.al (by omega) (.cells #[.bool false, .slice f1 0 g1, .slice (some ⟨b25, ob25, none⟩) 1 g2] 25))
  have hb44 : Hid (Below w.heap.size w wo37) := by rw [hwo37]; exact (hb22.out.alloc (by omega) (.cells #[.bool false, .slice f1 0 g1, .slice (some ⟨b25, ob25, none⟩) 1 g2] 25))
  have zwo37 : w.heap.size ≤ wo37.heap.size := hb44.out.size
  clear hwo37 n26 l27 l28 l29 l30 l31 l32 l33 l34 l35 l36 hb22 B18 B19 L23 L24
  clear L42 L43 B41
  refine (jn_no x hx c1 sa1 sc1 sz1 da1 dc1 dz1 c2 sa2 sc2 sz2 da2 dc2 dz2 _ x11 x12 ((HI1.out.1.below hb44.out).mono hb44.out.size) ((HI1.out.2.1.below hb44.out).mono hb44.out.size) HI1.out.2.2.2 x21 x22 ((HI2.out.1.below hb44.out).mono hb44.out.size) ((HI2.out.2.1.below hb44.out).mono hb44.out.size) HI2.out.2.2.2 HJn F1.out).mono ?_
  rintro e v3 ⟨xa1, xc1, ya1, yc1, rfl, hB⟩
  have z45 : wo37.heap.size ≤ v3.heap.size := hB.size
  have B46 : Hid (Abx v3 (w.heap.size) (.bool c1) (.slice sa1 sz1.length sc1) (.slice da1 dz1.length dc1)) := B39.out.go hB
  have B47 : Hid (Abx v3 (w.heap.size + 1) (.bool c2) (.slice sa2 sz2.length sc2) (.slice da2 dz2.length dc2)) := B40.out.go hB
  have hb48 : Hid (Below w.heap.size w v3) := hb44.out.trans (hB.mono hb44.out.size)
  clear hB hb44 B39 B40
  have n49 := Abx.new v3 (.bool false) (.slice xa1 0 xc1) (.slice ya1 0 yc1)
  go_wp2_with fail
  obtain ⟨wo50, hwo50⟩ : ∃ wo50, wo50 = (v3.alloc (.cells #[.bool false, .slice xa1 0 xc1, .slice ya1 0 yc1] 25)) := ⟨_, rfl⟩
  rw [← hwo50]
  have z51 : v3.heap.size + 1 ≤ wo50.heap.size := by rw [hwo50]; simp only [World.size_alloc]; omega
  have B52 : Hid (Abx wo50 (w.heap.size) (.bool c1) (.slice sa1 sz1.length sc1) (.slice da1 dz1.length dc1)) := by rw [hwo50]; exact (B46.out.al (.cells #[.bool false, .slice xa1 0 xc1, .slice ya1 0 yc1] 25))
  have B53 : Hid (Abx wo50 (w.heap.size + 1) (.bool c2) (.slice sa2 sz2.length sc2) (.slice da2 dz2.length dc2)) := by rw [hwo50]; exact (B47.out.al (.cells #[.bool false, .slice xa1 0 xc1, .slice ya1 0 yc1] 25))
  have B54 : Hid (Abx wo50 (v3.heap.size) (.bool false) (.slice xa1 0 xc1) (.slice ya1 0 yc1)) := by rw [hwo50]; exact n49
  have hb55 : Hid (Below w.heap.size w wo50) := by rw [hwo50]; exact (hb48.out.alloc (by omega) (.cells #[.bool false, .slice xa1 0 xc1, .slice ya1 0 yc1] 25))
  have zwo50 : w.heap.size ≤ wo50.heap.size := hb55.out.size
  clear hwo50 n49 hb48 B46 B47
  go_ret
  exact ⟨rfl, hb55.out⟩
set_option maxRecDepth 100000 in
set_option maxHeartbeats 8000000 in
theorem joins_char (HJn : CJn) (HRd : CRd) (H2 : C2d) (f x : Int) (hf : In64 f) (hx : In64 x) (c1 : Bool) (sa1 : Option Addr) (sc1 : Nat) (sz1 : List Int) (da1 : Option Addr) (dc1 : Nat) (dz1 : List Int) (c2 : Bool) (sa2 : Option Addr) (sc2 : Nat) (sz2 : List Int) (da2 : Option Addr) (dc2 : Nat) (dz2 : List Int) (w : World) (hg : HasErr w) (w8 : IsArrD w sa1 sz1 sc1 da1 dz1 dc1) (w9 : IsArrD w sa2 sz2 sc2 da2 dz2 dc2) (F1 : Hid (jnE x c1 sz1 dz1 c2 sz2 dz2 = 0)) (hc : c1 = true) :
    Calls Tryd.prog 3 #[.int .i64 f, .int .i64 x, .agg #[.bool c1, .slice sa1 sz1.length sc1, .slice da1 dz1.length dc1], .agg #[.bool c2, .slice sa2 sz2.length sc2, .slice da2 dz2.length dc2]] w fun e w' => e = .returned (.bool true) ∧ Below w.heap.size w w' := by
  subst hc
  obtain ⟨S, hS⟩ : ∃ S, S = jnS x.toNat sz1 sz2 := ⟨_, rfl⟩
  obtain ⟨D, hD⟩ : ∃ D, D = jnD x.toNat sz1 dz1 sz2 dz2 := ⟨_, rfl⟩
  have HJ1 : Hid (jnE x true sz1 dz1 c2 sz2 dz2 = 0 ∧ jnS x.toNat sz1 sz2 = S ∧ jnD x.toNat sz1 dz1 sz2 dz2 = D) := ⟨F1.out, hS.symm, hD.symm⟩
  clear hS hD
  obtain ⟨x11, x12, x3, x4, s64, T⟩ := w8
  have HI1 : Hid (IsC w.heap.size w sa1 sz1 sc1 ∧ IsC w.heap.size w da1 dz1 dc1 ∧ (∀ j, In64 (nth sz1 j)) ∧ ∀ j, In64 (nth dz1 j)) := ⟨x3, x4, s64, T⟩
  clear x3 x4 T s64
  obtain ⟨x21, x22, x3, x4, s64, T⟩ := w9
  have HI2 : Hid (IsC w.heap.size w sa2 sz2 sc2 ∧ IsC w.heap.size w da2 dz2 dc2 ∧ (∀ j, In64 (nth sz2 j)) ∧ ∀ j, In64 (nth dz2 j)) := ⟨x3, x4, s64, T⟩
  clear x3 x4 T s64
  have HG : Hid (HasErr w) := hg
  clear hg
  have n1 := Abx.new w (.bool true) (.slice sa1 sz1.length sc1) (.slice da1 dz1.length dc1)
  have n2 := Abx.new (w.alloc (.cells #[.bool true, .slice sa1 sz1.length sc1, .slice da1 dz1.length dc1] 25)) (.bool c2) (.slice sa2 sz2.length sc2) (.slice da2 dz2.length dc2)
  simp only [World.size_alloc] at n2
  have n3 := lit_mid ((w.alloc (.cells #[.bool true, .slice sa1 sz1.length sc1, .slice da1 dz1.length dc1] 25)).alloc (.cells #[.bool c2, .slice sa2 sz2.length sc2, .slice da2 dz2.length dc2] 25)) 3 [2, 3, 4] 3 rfl
  simp only [World.size_alloc, List.map_cons, List.map_nil] at n3
  go_enter Tryd.func3, Tryd.ntmps3
  go_wp2_with fail
  obtain ⟨wo4, hwo4⟩ : ∃ wo4, wo4 = (((w.alloc (.cells #[.bool true, .slice sa1 sz1.length sc1, .slice da1 dz1.length dc1] 25)).alloc (.cells #[.bool c2, .slice sa2 sz2.length sc2, .slice da2 dz2.length dc2] 25)).alloc (.cells #[.int .i64 2, .int .i64 3, .int .i64 4] 3)) := ⟨_, rfl⟩
  rw [← hwo4]
  have z5 : w.heap.size + 1 + 1 + 1 ≤ wo4.heap.size := by rw [hwo4]; simp only [World.size_alloc]; omega
  have B6 : Hid (Abx wo4 (w.heap.size) (.bool true) (.slice sa1 sz1.length sc1) (.slice da1 dz1.length dc1)) := by rw [hwo4]; exact ((n1.al (.cells #[.bool c2, .slice sa2 sz2.length sc2, .slice da2 dz2.length dc2] 25)).al (.cells #[.int .i64 2, .int .i64 3, .int .i64 4] 3))
  have B7 : Hid (Abx wo4 (w.heap.size + 1) (.bool c2) (.slice sa2 sz2.length sc2) (.slice da2 dz2.length dc2)) := by rw [hwo4]; exact (n2.al (.cells #[.int .i64 2, .int .i64 3, .int .i64 4] 3))
  have L8 : Hid (MidC (w.heap.size + 1 + 1) (w.heap.size + 1 + 1 + 1) wo4 (some ⟨w.heap.size + 1 + 1, 0, none⟩) ([2, 3, 4]) (3)) := by rw [hwo4]; exact n3
  have hb9 : Hid (Below w.heap.size w wo4) := by rw [hwo4]; exact ((((Below.refl w.heap.size w).alloc (by omega) (.cells #[.bool true, .slice sa1 sz1.length sc1, .slice da1 dz1.length dc1] 25)).alloc (by simp only [World.size_alloc]; omega) (.cells #[.bool c2, .slice sa2 sz2.length sc2, .slice da2 dz2.length dc2] 25)).alloc (by simp only [World.size_alloc]; omega) (.cells #[.int .i64 2, .int .i64 3, .int .i64 4] 3))
  have zwo4 : w.heap.size ≤ wo4.heap.size := hb9.out.size
  clear hwo4 n1 n2 n3
  refine (vec_c (some ⟨w.heap.size + 1 + 1, 0, none⟩) 3 [2, 3, 4] (by simp) _ (L8.out.is (by omega)).1).mono ?_
  rintro e v1 ⟨vap, vcp, gap, gcp, rfl, hVp, hGp, hB⟩
  have z10 : wo4.heap.size ≤ v1.heap.size := hB.size
  have B11 : Hid (Abx v1 (w.heap.size) (.bool true) (.slice sa1 sz1.length sc1) (.slice da1 dz1.length dc1)) := B6.out.go hB
  have B12 : Hid (Abx v1 (w.heap.size + 1) (.bool c2) (.slice sa2 sz2.length sc2) (.slice da2 dz2.length dc2)) := B7.out.go hB
  have L13 : Hid (MidC (w.heap.size + 1 + 1) (w.heap.size + 1 + 1 + 1) v1 (some ⟨w.heap.size + 1 + 1, 0, none⟩) ([2, 3, 4]) (3)) := L8.out.go (by omega) hB
  have hb14 : Hid (Below w.heap.size w v1) := hb9.out.trans (hB.mono hb9.out.size)
  have L15 : Hid (MidC (wo4.heap.size) (v1.heap.size) v1 (vap) ([(3 : Int)]) (vcp)) := hVp.midc
  have L16 : Hid (MidC (wo4.heap.size) (v1.heap.size) v1 (gap) ([2, 3, 4]) (gcp)) := hGp.midc
  clear hB hb9 B6 B7 L8 hVp hGp
  clear L13
  go_wp2_with fail
  refine (rdw_ok 3 0 false vap vcp [(3 : Int)] 1 rfl gap gcp [2, 3, 4] 3 rfl _ (by unfold In64; decide) (by unfold In64; decide) (by decide) (by decide) (L15.out.is (by omega)) (L16.out.is (by omega)).1 (lit12 (by decide)) [] [24] HRd (by show rdE 3 0 false [(3 : Int)] [2, 3, 4] = 0 ∧ xout (0 : Int).toNat [(3 : Int)] = [] ∧ rdD 3 [(3 : Int)] [2, 3, 4] (0 : Int).toNat = [24]; decide +kernel)).mono ?_
  rintro e v2 ⟨f1, g1, f2, g2, rfl, hX0, hY0, hB⟩
  have z17 : v1.heap.size ≤ v2.heap.size := hB.size
  have B18 : Hid (Abx v2 (w.heap.size) (.bool true) (.slice sa1 sz1.length sc1) (.slice da1 dz1.length dc1)) := B11.out.go hB
  have B19 : Hid (Abx v2 (w.heap.size + 1) (.bool c2) (.slice sa2 sz2.length sc2) (.slice da2 dz2.length dc2)) := B12.out.go hB
  have L20 : Hid (MidC (wo4.heap.size) (v1.heap.size) v2 (vap) ([(3 : Int)]) (vcp)) := L15.out.go (by omega) hB
  have L21 : Hid (MidC (wo4.heap.size) (v1.heap.size) v2 (gap) ([2, 3, 4]) (gcp)) := L16.out.go (by omega) hB
  have hb22 : Hid (Below w.heap.size w v2) := hb14.out.trans (hB.mono hb14.out.size)
  have L23 : Hid (MidC (v1.heap.size) (v2.heap.size) v2 (f1) ([]) (g1)) := hX0.midc
  have L24 : Hid (MidC (v1.heap.size) (v2.heap.size) v2 (f2) ([24]) (g2)) := hY0.midc
  clear hB hb14 B11 B12 L15 L16 hX0 hY0
  clear L20 L21
  obtain ⟨b25, ob25, rfl, _, _, _, _⟩ := L24.out.at (i := 0) (by decide)
  have n26 := Abx.new v2 (.bool false) (.slice f1 0 g1) (.slice (some ⟨b25, ob25, none⟩) 1 g2)
  have l27 := (n26).c0
  have l28 := (n26).c1
  have l29 := (n26).c2
  obtain ⟨_, _, l30e, _, _, l30, _⟩ := ((L24.out.al (by omega) (.cells #[.bool false, .slice f1 0 g1, .slice (some ⟨b25, ob25, none⟩) 1 g2] 25))).at (i := 0) (by decide)
  cases l30e
  try simp only [Nat.add_zero] at l30
  have l31 := ((B18.out.al (.cells #[.bool false, .slice f1 0 g1, .slice (some ⟨b25, ob25, none⟩) 1 g2] 25))).c0
  have l32 := ((B18.out.al (.cells #[.bool false, .slice f1 0 g1, .slice (some ⟨b25, ob25, none⟩) 1 g2] 25))).c1
  have l33 := ((B18.out.al (.cells #[.bool false, .slice f1 0 g1, .slice (some ⟨b25, ob25, none⟩) 1 g2] 25))).c2
  have l34 := ((B19.out.al (.cells #[.bool false, .slice f1 0 g1, .slice (some ⟨b25, ob25, none⟩) 1 g2] 25))).c0
  have l35 := ((B19.out.al (.cells #[.bool false, .slice f1 0 g1, .slice (some ⟨b25, ob25, none⟩) 1 g2] 25))).c1
  have l36 := ((B19.out.al (.cells #[.bool false, .slice f1 0 g1, .slice (some ⟨b25, ob25, none⟩) 1 g2] 25))).c2
  go_wp2_with fail
  obtain ⟨wo37, hwo37⟩ : ∃ wo37, wo37 = (v2.alloc (.cells #[.bool false, .slice f1 0 g1, .slice (some ⟨b25, ob25, none⟩) 1 g2] 25)) := ⟨_, rfl⟩
  rw [← hwo37]
  have z38 : v2.heap.size + 1 ≤ wo37.heap.size := by rw [hwo37]; simp only [World.size_alloc]; omega
  have B39 : Hid (Abx wo37 (w.heap.size) (.bool true) (.slice sa1 sz1.length sc1) (.slice da1 dz1.length dc1)) := by rw [hwo37]; exact (B18.out.al (.cells #[.bool false, .slice f1 0 g1, .slice (some ⟨b25, ob25, none⟩) 1 g2] 25))
  have B40 : Hid (Abx wo37 (w.heap.size + 1) (.bool c2) (.slice sa2 sz2.length sc2) (.slice da2 dz2.length dc2)) := by rw [hwo37]; exact (B19.out.al (.cells #[.bool false, .slice f1 0 g1, .slice (some ⟨b25, ob25, none⟩) 1 g2] 25))
  have B41 : Hid (Abx wo37 (v2.heap.size) (.bool false) (.slice f1 0 g1) (.slice (some ⟨b25, ob25, none⟩) 1 g2)) := by rw [hwo37]; exact n26
  have L42 : Hid (MidC (v1.heap.size) (v2.heap.size) wo37 (f1) ([]) (g1)) := by rw [hwo37]; exact (L23.out.al (by omega) (.cells #[.bool false, .slice f1 0 g1, .slice (some ⟨b25, ob25, none⟩) 1 g2] 25))
  have L43 : Hid (MidC (v1.heap.size) (v2.heap.size) wo37 (some ⟨b25, ob25, none⟩) ([24]) (g2)) := by rw [hwo37]; exact (L24.out.al (by omega) (.cells #[.bool false, .slice f1 0 g1, .slice (some ⟨b25, ob25, none⟩) 1 g2] 25))
  have hb44 : Hid (Below w.heap.size w wo37) := by rw [hwo37]; exact (hb22.out.alloc (by omega) (.cells #[.bool false, .slice f1 0 g1, .slice (some ⟨b25, ob25, none⟩) 1 g2] 25))
  have zwo37 : w.heap.size ≤ wo37.heap.size := hb44.out.size
  clear hwo37 n26 l27 l28 l29 l30 l31 l32 l33 l34 l35 l36 hb22 B18 B19 L23 L24
  clear L42 L43 B41
  refine (jn_ok x hx true sa1 sc1 sz1 da1 dc1 dz1 c2 sa2 sc2 sz2 da2 dc2 dz2 _ x11 x12 ((HI1.out.1.below hb44.out).mono hb44.out.size) ((HI1.out.2.1.below hb44.out).mono hb44.out.size) HI1.out.2.2.2 x21 x22 ((HI2.out.1.below hb44.out).mono hb44.out.size) ((HI2.out.2.1.below hb44.out).mono hb44.out.size) HI2.out.2.2.2 S D HJn HJ1.out).mono ?_
  rintro e v3 ⟨xa1, xc1, ya1, yc1, rfl, hX1, hY1, hB⟩
  have z45 : wo37.heap.size ≤ v3.heap.size := hB.size
  have B46 : Hid (Abx v3 (w.heap.size) (.bool true) (.slice sa1 sz1.length sc1) (.slice da1 dz1.length dc1)) := B39.out.go hB
  have B47 : Hid (Abx v3 (w.heap.size + 1) (.bool c2) (.slice sa2 sz2.length sc2) (.slice da2 dz2.length dc2)) := B40.out.go hB
  have hb48 : Hid (Below w.heap.size w v3) := hb44.out.trans (hB.mono hb44.out.size)
  have L49 : Hid (MidC (wo37.heap.size) (v3.heap.size) v3 (xa1) (S) (xc1)) := hX1.midc
  have L50 : Hid (MidC (wo37.heap.size) (v3.heap.size) v3 (ya1) (D) (yc1)) := hY1.midc
  clear hB hb44 B39 B40 hX1 hY1
  have n51 := Abx.new v3 (.bool true) (.slice xa1 S.length xc1) (.slice ya1 D.length yc1)
  have l52 := ((B46.out.al (.cells #[.bool true, .slice xa1 S.length xc1, .slice ya1 D.length yc1] 25))).c0
  have l53 := ((B46.out.al (.cells #[.bool true, .slice xa1 S.length xc1, .slice ya1 D.length yc1] 25))).c1
  have l54 := ((B46.out.al (.cells #[.bool true, .slice xa1 S.length xc1, .slice ya1 D.length yc1] 25))).c2
  go_wp2_with fail
  obtain ⟨wo55, hwo55⟩ : ∃ wo55, wo55 = (v3.alloc (.cells #[.bool true, .slice xa1 S.length xc1, .slice ya1 D.length yc1] 25)) := ⟨_, rfl⟩
  rw [← hwo55]
  have z56 : v3.heap.size + 1 ≤ wo55.heap.size := by rw [hwo55]; simp only [World.size_alloc]; omega
  have B57 : Hid (Abx wo55 (w.heap.size) (.bool true) (.slice sa1 sz1.length sc1) (.slice da1 dz1.length dc1)) := by rw [hwo55]; exact (B46.out.al (.cells #[.bool true, .slice xa1 S.length xc1, .slice ya1 D.length yc1] 25))
  have B58 : Hid (Abx wo55 (w.heap.size + 1) (.bool c2) (.slice sa2 sz2.length sc2) (.slice da2 dz2.length dc2)) := by rw [hwo55]; exact (B47.out.al (.cells #[.bool true, .slice xa1 S.length xc1, .slice ya1 D.length yc1] 25))
  have B59 : Hid (Abx wo55 (v3.heap.size) (.bool true) (.slice xa1 S.length xc1) (.slice ya1 D.length yc1)) := by rw [hwo55]; exact n51
  have L60 : Hid (MidC (wo37.heap.size) (v3.heap.size) wo55 (xa1) (S) (xc1)) := by rw [hwo55]; exact (L49.out.al (by omega) (.cells #[.bool true, .slice xa1 S.length xc1, .slice ya1 D.length yc1] 25))
  have L61 : Hid (MidC (wo37.heap.size) (v3.heap.size) wo55 (ya1) (D) (yc1)) := by rw [hwo55]; exact (L50.out.al (by omega) (.cells #[.bool true, .slice xa1 S.length xc1, .slice ya1 D.length yc1] 25))
  have hb62 : Hid (Below w.heap.size w wo55) := by rw [hwo55]; exact (hb48.out.alloc (by omega) (.cells #[.bool true, .slice xa1 S.length xc1, .slice ya1 D.length yc1] 25))
  have zwo55 : w.heap.size ≤ wo55.heap.size := hb62.out.size
  clear hwo55 n51 l52 l53 l54 hb48 B46 B47 L49 L50
  go_ret
  exact ⟨rfl, hb62.out⟩
set_option maxRecDepth 100000 in
set_option maxHeartbeats 8000000 in
theorem joins_other (HJn : CJn) (HRd : CRd) (H2 : C2d) (f x : Int) (hf : In64 f) (hx : In64 x) (c1 : Bool) (sa1 : Option Addr) (sc1 : Nat) (sz1 : List Int) (da1 : Option Addr) (dc1 : Nat) (dz1 : List Int) (c2 : Bool) (sa2 : Option Addr) (sc2 : Nat) (sz2 : List Int) (da2 : Option Addr) (dc2 : Nat) (dz2 : List Int) (w : World) (hg : HasErr w) (w8 : IsArrD w sa1 sz1 sc1 da1 dz1 dc1) (w9 : IsArrD w sa2 sz2 sc2 da2 dz2 dc2) (F1 : Hid (jnE x c1 sz1 dz1 c2 sz2 dz2 = 0)) (hc : c1 = false) (F2 : Hid (¬ Mon f)) :
    Calls Tryd.prog 3 #[.int .i64 f, .int .i64 x, .agg #[.bool c1, .slice sa1 sz1.length sc1, .slice da1 dz1.length dc1], .agg #[.bool c2, .slice sa2 sz2.length sc2, .slice da2 dz2.length dc2]] w fun e w' => e = .returned (.bool true) ∧ Below w.heap.size w w' := by
  subst hc
  obtain ⟨S, hS⟩ : ∃ S, S = jnS x.toNat sz1 sz2 := ⟨_, rfl⟩
  obtain ⟨D, hD⟩ : ∃ D, D = jnD x.toNat sz1 dz1 sz2 dz2 := ⟨_, rfl⟩
  have HJ1 : Hid (jnE x false sz1 dz1 c2 sz2 dz2 = 0 ∧ jnS x.toNat sz1 sz2 = S ∧ jnD x.toNat sz1 dz1 sz2 dz2 = D) := ⟨F1.out, hS.symm, hD.symm⟩
  clear hS hD
  obtain ⟨x11, x12, x3, x4, s64, T⟩ := w8
  have HI1 : Hid (IsC w.heap.size w sa1 sz1 sc1 ∧ IsC w.heap.size w da1 dz1 dc1 ∧ (∀ j, In64 (nth sz1 j)) ∧ ∀ j, In64 (nth dz1 j)) := ⟨x3, x4, s64, T⟩
  clear x3 x4 T s64
  obtain ⟨x21, x22, x3, x4, s64, T⟩ := w9
  have HI2 : Hid (IsC w.heap.size w sa2 sz2 sc2 ∧ IsC w.heap.size w da2 dz2 dc2 ∧ (∀ j, In64 (nth sz2 j)) ∧ ∀ j, In64 (nth dz2 j)) := ⟨x3, x4, s64, T⟩
  clear x3 x4 T s64
  have HG : Hid (HasErr w) := hg
  clear hg
  have n1 := Abx.new w (.bool false) (.slice sa1 sz1.length sc1) (.slice da1 dz1.length dc1)
  have n2 := Abx.new (w.alloc (.cells #[.bool false, .slice sa1 sz1.length sc1, .slice da1 dz1.length dc1] 25)) (.bool c2) (.slice sa2 sz2.length sc2) (.slice da2 dz2.length dc2)
  simp only [World.size_alloc] at n2
  have n3 := lit_mid ((w.alloc (.cells #[.bool false, .slice sa1 sz1.length sc1, .slice da1 dz1.length dc1] 25)).alloc (.cells #[.bool c2, .slice sa2 sz2.length sc2, .slice da2 dz2.length dc2] 25)) 3 [2, 3, 4] 3 rfl
  simp only [World.size_alloc, List.map_cons, List.map_nil] at n3
  go_enter Tryd.func3, Tryd.ntmps3
  go_wp2_with fail
  obtain ⟨wo4, hwo4⟩ : ∃ wo4, wo4 = (((w.alloc (.cells #[.bool false, .slice sa1 sz1.length sc1, .slice da1 dz1.length dc1] 25)).alloc (.cells #[.bool c2, .slice sa2 sz2.length sc2, .slice da2 dz2.length dc2] 25)).alloc (.cells #[.int .i64 2, .int .i64 3, .int .i64 4] 3)) := ⟨_, rfl⟩
  rw [← hwo4]
  have z5 : w.heap.size + 1 + 1 + 1 ≤ wo4.heap.size := by rw [hwo4]; simp only [World.size_alloc]; omega
  have B6 : Hid (Abx wo4 (w.heap.size) (.bool false) (.slice sa1 sz1.length sc1) (.slice da1 dz1.length dc1)) := by rw [hwo4]; exact ((n1.al (.cells #[.bool c2, .slice sa2 sz2.length sc2, .slice da2 dz2.length dc2] 25)).al (.cells #[.int .i64 2, .int .i64 3, .int .i64 4] 3))
  have B7 : Hid (Abx wo4 (w.heap.size + 1) (.bool c2) (.slice sa2 sz2.length sc2) (.slice da2 dz2.length dc2)) := by rw [hwo4]; exact (n2.al (.cells #[.int .i64 2, .int .i64 3, .int .i64 4] 3))
  have L8 : Hid (MidC (w.heap.size + 1 + 1) (w.heap.size + 1 + 1 + 1) wo4 (some ⟨w.heap.size + 1 + 1, 0, none⟩) ([2, 3, 4]) (3)) := by rw [hwo4]; exact n3
  have hb9 : Hid (Below w.heap.size w wo4) := by rw [hwo4]; exact ((((Below.refl w.heap.size w).alloc (by omega) (.cells #[.bool false, .slice sa1 sz1.length sc1, .slice da1 dz1.length dc1] 25)).alloc (by simp only [World.size_alloc]; omega) (.cells #[.bool c2, .slice sa2 sz2.length sc2, .slice da2 dz2.length dc2] 25)).alloc (by simp only [World.size_alloc]; omega) (.cells #[.int .i64 2, .int .i64 3, .int .i64 4] 3))
  have zwo4 : w.heap.size ≤ wo4.heap.size := hb9.out.size
  clear hwo4 n1 n2 n3
  refine (vec_c (some ⟨w.heap.size + 1 + 1, 0, none⟩) 3 [2, 3, 4] (by simp) _ (L8.out.is (by omega)).1).mono ?_
  rintro e v1 ⟨vap, vcp, gap, gcp, rfl, hVp, hGp, hB⟩
  have z10 : wo4.heap.size ≤ v1.heap.size := hB.size
  have B11 : Hid (Abx v1 (w.heap.size) (.bool false) (.slice sa1 sz1.length sc1) (.slice da1 dz1.length dc1)) := B6.out.go hB
  have B12 : Hid (Abx v1 (w.heap.size + 1) (.bool c2) (.slice sa2 sz2.length sc2) (.slice da2 dz2.length dc2)) := B7.out.go hB
  have L13 : Hid (MidC (w.heap.size + 1 + 1) (w.heap.size + 1 + 1 + 1) v1 (some ⟨w.heap.size + 1 + 1, 0, none⟩) ([2, 3, 4]) (3)) := L8.out.go (by omega) hB
  have hb14 : Hid (Below w.heap.size w v1) := hb9.out.trans (hB.mono hb9.out.size)
  have L15 : Hid (MidC (wo4.heap.size) (v1.heap.size) v1 (vap) ([(3 : Int)]) (vcp)) := hVp.midc
  have L16 : Hid (MidC (wo4.heap.size) (v1.heap.size) v1 (gap) ([2, 3, 4]) (gcp)) := hGp.midc
  clear hB hb9 B6 B7 L8 hVp hGp
  clear L13
  go_wp2_with fail
  refine (rdw_ok 3 0 false vap vcp [(3 : Int)] 1 rfl gap gcp [2, 3, 4] 3 rfl _ (by unfold In64; decide) (by unfold In64; decide) (by decide) (by decide) (L15.out.is (by omega)) (L16.out.is (by omega)).1 (lit12 (by decide)) [] [24] HRd (by show rdE 3 0 false [(3 : Int)] [2, 3, 4] = 0 ∧ xout (0 : Int).toNat [(3 : Int)] = [] ∧ rdD 3 [(3 : Int)] [2, 3, 4] (0 : Int).toNat = [24]; decide +kernel)).mono ?_
  rintro e v2 ⟨f1, g1, f2, g2, rfl, hX0, hY0, hB⟩
  have z17 : v1.heap.size ≤ v2.heap.size := hB.size
  have B18 : Hid (Abx v2 (w.heap.size) (.bool false) (.slice sa1 sz1.length sc1) (.slice da1 dz1.length dc1)) := B11.out.go hB
  have B19 : Hid (Abx v2 (w.heap.size + 1) (.bool c2) (.slice sa2 sz2.length sc2) (.slice da2 dz2.length dc2)) := B12.out.go hB
  have L20 : Hid (MidC (wo4.heap.size) (v1.heap.size) v2 (vap) ([(3 : Int)]) (vcp)) := L15.out.go (by omega) hB
  have L21 : Hid (MidC (wo4.heap.size) (v1.heap.size) v2 (gap) ([2, 3, 4]) (gcp)) := L16.out.go (by omega) hB
  have hb22 : Hid (Below w.heap.size w v2) := hb14.out.trans (hB.mono hb14.out.size)
  have L23 : Hid (MidC (v1.heap.size) (v2.heap.size) v2 (f1) ([]) (g1)) := hX0.midc
  have L24 : Hid (MidC (v1.heap.size) (v2.heap.size) v2 (f2) ([24]) (g2)) := hY0.midc
  clear hB hb14 B11 B12 L15 L16 hX0 hY0
  clear L20 L21
  obtain ⟨b25, ob25, rfl, _, _, _, _⟩ := L24.out.at (i := 0) (by decide)
  have n26 := Abx.new v2 (.bool false) (.slice f1 0 g1) (.slice (some ⟨b25, ob25, none⟩) 1 g2)
  have l27 := (n26).c0
  have l28 := (n26).c1
  have l29 := (n26).c2
  obtain ⟨_, _, l30e, _, _, l30, _⟩ := ((L24.out.al (by omega) (.cells #[.bool false, .slice f1 0 g1, .slice (some ⟨b25, ob25, none⟩) 1 g2] 25))).at (i := 0) (by decide)
  cases l30e
  try simp only [Nat.add_zero] at l30
  have l31 := ((B18.out.al (.cells #[.bool false, .slice f1 0 g1, .slice (some ⟨b25, ob25, none⟩) 1 g2] 25))).c0
  have l32 := ((B18.out.al (.cells #[.bool false, .slice f1 0 g1, .slice (some ⟨b25, ob25, none⟩) 1 g2] 25))).c1
  have l33 := ((B18.out.al (.cells #[.bool false, .slice f1 0 g1, .slice (some ⟨b25, ob25, none⟩) 1 g2] 25))).c2
  have l34 := ((B19.out.al (.cells #[.bool false, .slice f1 0 g1, .slice (some ⟨b25, ob25, none⟩) 1 g2] 25))).c0
  have l35 := ((B19.out.al (.cells #[.bool false, .slice f1 0 g1, .slice (some ⟨b25, ob25, none⟩) 1 g2] 25))).c1
  have l36 := ((B19.out.al (.cells #[.bool false, .slice f1 0 g1, .slice (some ⟨b25, ob25, none⟩) 1 g2] 25))).c2
  go_wp2_with fail
  obtain ⟨wo37, hwo37⟩ : ∃ wo37, wo37 = (v2.alloc (.cells #[.bool false, .slice f1 0 g1, .slice (some ⟨b25, ob25, none⟩) 1 g2] 25)) := ⟨_, rfl⟩
  rw [← hwo37]
  have z38 : v2.heap.size + 1 ≤ wo37.heap.size := by rw [hwo37]; simp only [World.size_alloc]; omega
  have B39 : Hid (Abx wo37 (w.heap.size) (.bool false) (.slice sa1 sz1.length sc1) (.slice da1 dz1.length dc1)) := by rw [hwo37]; exact (B18.out.al (.cells #[.bool false, .slice f1 0 g1, .slice (some ⟨b25, ob25, none⟩) 1 g2] 25))
  have B40 : Hid (Abx wo37 (w.heap.size + 1) (.bool c2) (.slice sa2 sz2.length sc2) (.slice da2 dz2.length dc2)) := by rw [hwo37]; exact (B19.out.al (.cells #[.bool false, .slice f1 0 g1, .slice (some ⟨b25, ob25, none⟩) 1 g2] 25))
  have B41 : Hid (Abx wo37 (v2.heap.size) (.bool false) (.slice f1 0 g1) (.slice (some ⟨b25, ob25, none⟩) 1 g2)) := by rw [hwo37]; exact n26
  have L42 : Hid (MidC (v1.heap.size) (v2.heap.size) wo37 (f1) ([]) (g1)) := by rw [hwo37]; exact (L23.out.al (by omega) (.cells #[.bool false, .slice f1 0 g1, .slice (some ⟨b25, ob25, none⟩) 1 g2] 25))
  have L43 : Hid (MidC (v1.heap.size) (v2.heap.size) wo37 (some ⟨b25, ob25, none⟩) ([24]) (g2)) := by rw [hwo37]; exact (L24.out.al (by omega) (.cells #[.bool false, .slice f1 0 g1, .slice (some ⟨b25, ob25, none⟩) 1 g2] 25))
  have hb44 : Hid (Below w.heap.size w wo37) := by rw [hwo37]; exact (hb22.out.alloc (by omega) (.cells #[.bool false, .slice f1 0 g1, .slice (some ⟨b25, ob25, none⟩) 1 g2] 25))
  have zwo37 : w.heap.size ≤ wo37.heap.size := hb44.out.size
  clear hwo37 n26 l27 l28 l29 l30 l31 l32 l33 l34 l35 l36 hb22 B18 B19 L23 L24
  clear L42 L43 B41
  refine (jn_ok x hx false sa1 sc1 sz1 da1 dc1 dz1 c2 sa2 sc2 sz2 da2 dc2 dz2 _ x11 x12 ((HI1.out.1.below hb44.out).mono hb44.out.size) ((HI1.out.2.1.below hb44.out).mono hb44.out.size) HI1.out.2.2.2 x21 x22 ((HI2.out.1.below hb44.out).mono hb44.out.size) ((HI2.out.2.1.below hb44.out).mono hb44.out.size) HI2.out.2.2.2 S D HJn HJ1.out).mono ?_
  rintro e v3 ⟨xa1, xc1, ya1, yc1, rfl, hX1, hY1, hB⟩
  have z45 : wo37.heap.size ≤ v3.heap.size := hB.size
  have B46 : Hid (Abx v3 (w.heap.size) (.bool false) (.slice sa1 sz1.length sc1) (.slice da1 dz1.length dc1)) := B39.out.go hB
  have B47 : Hid (Abx v3 (w.heap.size + 1) (.bool c2) (.slice sa2 sz2.length sc2) (.slice da2 dz2.length dc2)) := B40.out.go hB
  have hb48 : Hid (Below w.heap.size w v3) := hb44.out.trans (hB.mono hb44.out.size)
  have L49 : Hid (MidC (wo37.heap.size) (v3.heap.size) v3 (xa1) (S) (xc1)) := hX1.midc
  have L50 : Hid (MidC (wo37.heap.size) (v3.heap.size) v3 (ya1) (D) (yc1)) := hY1.midc
  clear hB hb44 B39 B40 hX1 hY1
  have n51 := Abx.new v3 (.bool false) (.slice xa1 S.length xc1) (.slice ya1 D.length yc1)
  have l52 := ((B46.out.al (.cells #[.bool false, .slice xa1 S.length xc1, .slice ya1 D.length yc1] 25))).c0
  have l53 := ((B46.out.al (.cells #[.bool false, .slice xa1 S.length xc1, .slice ya1 D.length yc1] 25))).c1
  have l54 := ((B46.out.al (.cells #[.bool false, .slice xa1 S.length xc1, .slice ya1 D.length yc1] 25))).c2
  have l55 := (n51).c0
  have l56 := (n51).c1
  have l57 := (n51).c2
  go_wp2_with fail
  obtain ⟨wo58, hwo58⟩ : ∃ wo58, wo58 = (v3.alloc (.cells #[.bool false, .slice xa1 S.length xc1, .slice ya1 D.length yc1] 25)) := ⟨_, rfl⟩
  rw [← hwo58]
  have z59 : v3.heap.size + 1 ≤ wo58.heap.size := by rw [hwo58]; simp only [World.size_alloc]; omega
  have B60 : Hid (Abx wo58 (w.heap.size) (.bool false) (.slice sa1 sz1.length sc1) (.slice da1 dz1.length dc1)) := by rw [hwo58]; exact (B46.out.al (.cells #[.bool false, .slice xa1 S.length xc1, .slice ya1 D.length yc1] 25))
  have B61 : Hid (Abx wo58 (w.heap.size + 1) (.bool c2) (.slice sa2 sz2.length sc2) (.slice da2 dz2.length dc2)) := by rw [hwo58]; exact (B47.out.al (.cells #[.bool false, .slice xa1 S.length xc1, .slice ya1 D.length yc1] 25))
  have B62 : Hid (Abx wo58 (v3.heap.size) (.bool false) (.slice xa1 S.length xc1) (.slice ya1 D.length yc1)) := by rw [hwo58]; exact n51
  have L63 : Hid (MidC (wo37.heap.size) (v3.heap.size) wo58 (xa1) (S) (xc1)) := by rw [hwo58]; exact (L49.out.al (by omega) (.cells #[.bool false, .slice xa1 S.length xc1, .slice ya1 D.length yc1] 25))
  have L64 : Hid (MidC (wo37.heap.size) (v3.heap.size) wo58 (ya1) (D) (yc1)) := by rw [hwo58]; exact (L50.out.al (by omega) (.cells #[.bool false, .slice xa1 S.length xc1, .slice ya1 D.length yc1] 25))
  have hb65 : Hid (Below w.heap.size w wo58) := by rw [hwo58]; exact (hb48.out.alloc (by omega) (.cells #[.bool false, .slice xa1 S.length xc1, .slice ya1 D.length yc1] 25))
  have zwo58 : w.heap.size ≤ wo58.heap.size := hb65.out.size
  clear hwo58 n51 l52 l53 l54 l55 l56 l57 hb48 B46 B47 L49 L50
  refine (monoid_no f F2.out _).mono ?_
  rintro e v4 ⟨rfl, hB⟩
  have z66 : wo58.heap.size ≤ v4.heap.size := hB.size
  have B67 : Hid (Abx v4 (w.heap.size) (.bool false) (.slice sa1 sz1.length sc1) (.slice da1 dz1.length dc1)) := B60.out.go hB
  have B68 : Hid (Abx v4 (w.heap.size + 1) (.bool c2) (.slice sa2 sz2.length sc2) (.slice da2 dz2.length dc2)) := B61.out.go hB
  have B69 : Hid (Abx v4 (v3.heap.size) (.bool false) (.slice xa1 S.length xc1) (.slice ya1 D.length yc1)) := B62.out.go hB
  have L70 : Hid (MidC (wo37.heap.size) (v3.heap.size) v4 (xa1) (S) (xc1)) := L63.out.go (by omega) hB
  have L71 : Hid (MidC (wo37.heap.size) (v3.heap.size) v4 (ya1) (D) (yc1)) := L64.out.go (by omega) hB
  have hb72 : Hid (Below w.heap.size w v4) := hb65.out.trans (hB.mono hb65.out.size)
  clear hB hb65 B60 B61 B62 L63 L64
  go_wp2_with fail
  go_ret
  exact ⟨rfl, hb72.out⟩
set_option maxRecDepth 100000 in
set_option maxHeartbeats 8000000 in
theorem joins_full (HJn : CJn) (HRd : CRd) (H2 : C2d) (f x : Int) (hf : In64 f) (hx : In64 x) (c1 : Bool) (sa1 : Option Addr) (sc1 : Nat) (sz1 : List Int) (da1 : Option Addr) (dc1 : Nat) (dz1 : List Int) (c2 : Bool) (sa2 : Option Addr) (sc2 : Nat) (sz2 : List Int) (da2 : Option Addr) (dc2 : Nat) (dz2 : List Int) (w : World) (hg : HasErr w) (w8 : IsArrD w sa1 sz1 sc1 da1 dz1 dc1) (w9 : IsArrD w sa2 sz2 sc2 da2 dz2 dc2) (F1 : Hid (jnE x c1 sz1 dz1 c2 sz2 dz2 = 0)) (hc : c1 = false) (F2 : Hid (Mon f)) (G1 : Hid (errOf (xout x.toNat sz1) ≠ 0)) :
    Calls Tryd.prog 3 #[.int .i64 f, .int .i64 x, .agg #[.bool c1, .slice sa1 sz1.length sc1, .slice da1 dz1.length dc1], .agg #[.bool c2, .slice sa2 sz2.length sc2, .slice da2 dz2.length dc2]] w fun e w' => e = .returned (.bool true) ∧ Below w.heap.size w w' := by
  subst hc
  obtain ⟨S, hS⟩ : ∃ S, S = jnS x.toNat sz1 sz2 := ⟨_, rfl⟩
  obtain ⟨D, hD⟩ : ∃ D, D = jnD x.toNat sz1 dz1 sz2 dz2 := ⟨_, rfl⟩
  have HJ1 : Hid (jnE x false sz1 dz1 c2 sz2 dz2 = 0 ∧ jnS x.toNat sz1 sz2 = S ∧ jnD x.toNat sz1 dz1 sz2 dz2 = D) := ⟨F1.out, hS.symm, hD.symm⟩
  have T1 := w8.2.2.2.2.2
  have T2 := w9.2.2.2.2.2
  have jz := jnE_zero.1 F1.out
  have TD : ∀ j, In64 (nth D j) := by rw [hD]; exact jn_64 F1.out T1 T2
  have HTD : Hid (∀ j, In64 (nth D j)) := TD
  have fD : flawE false S D = 0 := by rw [hS, hD]; exact jn_flaw F1.out
  have ls := flawE_short fD
  have HN2 : Hid (rdE f x false S D = 7 ∧ (7 : Int) ≠ 0) := ⟨by rw [hS, hD]; exact jn_full F1.out F2.out T1 T2 G1.out, by decide⟩
  clear hS hD T1 T2 jz TD fD
  obtain ⟨x11, x12, x3, x4, s64, T⟩ := w8
  have HI1 : Hid (IsC w.heap.size w sa1 sz1 sc1 ∧ IsC w.heap.size w da1 dz1 dc1 ∧ (∀ j, In64 (nth sz1 j)) ∧ ∀ j, In64 (nth dz1 j)) := ⟨x3, x4, s64, T⟩
  clear x3 x4 T s64
  obtain ⟨x21, x22, x3, x4, s64, T⟩ := w9
  have HI2 : Hid (IsC w.heap.size w sa2 sz2 sc2 ∧ IsC w.heap.size w da2 dz2 dc2 ∧ (∀ j, In64 (nth sz2 j)) ∧ ∀ j, In64 (nth dz2 j)) := ⟨x3, x4, s64, T⟩
  clear x3 x4 T s64
  have HG : Hid (HasErr w) := hg
  clear hg
  have n1 := Abx.new w (.bool false) (.slice sa1 sz1.length sc1) (.slice da1 dz1.length dc1)
  have n2 := Abx.new (w.alloc (.cells #[.bool false, .slice sa1 sz1.length sc1, .slice da1 dz1.length dc1] 25)) (.bool c2) (.slice sa2 sz2.length sc2) (.slice da2 dz2.length dc2)
  simp only [World.size_alloc] at n2
  have n3 := lit_mid ((w.alloc (.cells #[.bool false, .slice sa1 sz1.length sc1, .slice da1 dz1.length dc1] 25)).alloc (.cells #[.bool c2, .slice sa2 sz2.length sc2, .slice da2 dz2.length dc2] 25)) 3 [2, 3, 4] 3 rfl
  simp only [World.size_alloc, List.map_cons, List.map_nil] at n3
  go_enter Tryd.func3, Tryd.ntmps3
  go_wp2_with fail
  obtain ⟨wo4, hwo4⟩ : ∃ wo4, wo4 = (((w.alloc (.cells #[.bool false, .slice sa1 sz1.length sc1, .slice da1 dz1.length dc1] 25)).alloc (.cells #[.bool c2, .slice sa2 sz2.length sc2, .slice da2 dz2.length dc2] 25)).alloc (.cells #[.int .i64 2, .int .i64 3, .int .i64 4] 3)) := ⟨_, rfl⟩
  rw [← hwo4]
  have z5 : w.heap.size + 1 + 1 + 1 ≤ wo4.heap.size := by rw [hwo4]; simp only [World.size_alloc]; omega
  have B6 : Hid (Abx wo4 (w.heap.size) (.bool false) (.slice sa1 sz1.length sc1) (.slice da1 dz1.length dc1)) := by rw [hwo4]; exact ((n1.al (.cells #[.bool c2, .slice sa2 sz2.length sc2, .slice da2 dz2.length dc2] 25)).al (.cells #[.int .i64 2, .int .i64 3, .int .i64 4] 3))
  have B7 : Hid (Abx wo4 (w.heap.size + 1) (.bool c2) (.slice sa2 sz2.length sc2) (.slice da2 dz2.length dc2)) := by rw [hwo4]; exact (n2.al (.cells #[.int .i64 2, .int .i64 3, .int .i64 4] 3))
  have L8 : Hid (MidC (w.heap.size + 1 + 1) (w.heap.size + 1 + 1 + 1) wo4 (some ⟨w.heap.size + 1 + 1, 0, none⟩) ([2, 3, 4]) (3)) := by rw [hwo4]; exact n3
  have hb9 : Hid (Below w.heap.size w wo4) := by rw [hwo4]; exact ((((Below.refl w.heap.size w).alloc (by omega) (.cells #[.bool false, .slice sa1 sz1.length sc1, .slice da1 dz1.length dc1] 25)).alloc (by simp only [World.size_alloc]; omega) (.cells #[.bool c2, .slice sa2 sz2.length sc2, .slice da2 dz2.length dc2] 25)).alloc (by simp only [World.size_alloc]; omega) (.cells #[.int .i64 2, .int .i64 3, .int .i64 4] 3))
  have zwo4 : w.heap.size ≤ wo4.heap.size := hb9.out.size
  clear hwo4 n1 n2 n3
  refine (vec_c (some ⟨w.heap.size + 1 + 1, 0, none⟩) 3 [2, 3, 4] (by simp) _ (L8.out.is (by omega)).1).mono ?_
  rintro e v1 ⟨vap, vcp, gap, gcp, rfl, hVp, hGp, hB⟩
  have z10 : wo4.heap.size ≤ v1.heap.size := hB.size
  have B11 : Hid (Abx v1 (w.heap.size) (.bool false) (.slice sa1 sz1.length sc1) (.slice da1 dz1.length dc1)) := B6.out.go hB
  have B12 : Hid (Abx v1 (w.heap.size + 1) (.bool c2) (.slice sa2 sz2.length sc2) (.slice da2 dz2.length dc2)) := B7.out.go hB
  have L13 : Hid (MidC (w.heap.size + 1 + 1) (w.heap.size + 1 + 1 + 1) v1 (some ⟨w.heap.size + 1 + 1, 0, none⟩) ([2, 3, 4]) (3)) := L8.out.go (by omega) hB
  have hb14 : Hid (Below w.heap.size w v1) := hb9.out.trans (hB.mono hb9.out.size)
  have L15 : Hid (MidC (wo4.heap.size) (v1.heap.size) v1 (vap) ([(3 : Int)]) (vcp)) := hVp.midc
  have L16 : Hid (MidC (wo4.heap.size) (v1.heap.size) v1 (gap) ([2, 3, 4]) (gcp)) := hGp.midc
  clear hB hb9 B6 B7 L8 hVp hGp
  clear L13
  go_wp2_with fail
  refine (rdw_ok 3 0 false vap vcp [(3 : Int)] 1 rfl gap gcp [2, 3, 4] 3 rfl _ (by unfold In64; decide) (by unfold In64; decide) (by decide) (by decide) (L15.out.is (by omega)) (L16.out.is (by omega)).1 (lit12 (by decide)) [] [24] HRd (by show rdE 3 0 false [(3 : Int)] [2, 3, 4] = 0 ∧ xout (0 : Int).toNat [(3 : Int)] = [] ∧ rdD 3 [(3 : Int)] [2, 3, 4] (0 : Int).toNat = [24]; decide +kernel)).mono ?_
  rintro e v2 ⟨f1, g1, f2, g2, rfl, hX0, hY0, hB⟩
  have z17 : v1.heap.size ≤ v2.heap.size := hB.size
  have B18 : Hid (Abx v2 (w.heap.size) (.bool false) (.slice sa1 sz1.length sc1) (.slice da1 dz1.length dc1)) := B11.out.go hB
  have B19 : Hid (Abx v2 (w.heap.size + 1) (.bool c2) (.slice sa2 sz2.length sc2) (.slice da2 dz2.length dc2)) := B12.out.go hB
  have L20 : Hid (MidC (wo4.heap.size) (v1.heap.size) v2 (vap) ([(3 : Int)]) (vcp)) := L15.out.go (by omega) hB
  have L21 : Hid (MidC (wo4.heap.size) (v1.heap.size) v2 (gap) ([2, 3, 4]) (gcp)) := L16.out.go (by omega) hB
  have hb22 : Hid (Below w.heap.size w v2) := hb14.out.trans (hB.mono hb14.out.size)
  have L23 : Hid (MidC (v1.heap.size) (v2.heap.size) v2 (f1) ([]) (g1)) := hX0.midc
  have L24 : Hid (MidC (v1.heap.size) (v2.heap.size) v2 (f2) ([24]) (g2)) := hY0.midc
  clear hB hb14 B11 B12 L15 L16 hX0 hY0
  clear L20 L21
  obtain ⟨b25, ob25, rfl, _, _, _, _⟩ := L24.out.at (i := 0) (by decide)
  have n26 := Abx.new v2 (.bool false) (.slice f1 0 g1) (.slice (some ⟨b25, ob25, none⟩) 1 g2)
  have l27 := (n26).c0
  have l28 := (n26).c1
  have l29 := (n26).c2
  obtain ⟨_, _, l30e, _, _, l30, _⟩ := ((L24.out.al (by omega) (.cells #[.bool false, .slice f1 0 g1, .slice (some ⟨b25, ob25, none⟩) 1 g2] 25))).at (i := 0) (by decide)
  cases l30e
  try simp only [Nat.add_zero] at l30
  have l31 := ((B18.out.al (.cells #[.bool false, .slice f1 0 g1, .slice (some ⟨b25, ob25, none⟩) 1 g2] 25))).c0
  have l32 := ((B18.out.al (.cells #[.bool false, .slice f1 0 g1, .slice (some ⟨b25, ob25, none⟩) 1 g2] 25))).c1
  have l33 := ((B18.out.al (.cells #[.bool false, .slice f1 0 g1, .slice (some ⟨b25, ob25, none⟩) 1 g2] 25))).c2
  have l34 := ((B19.out.al (.cells #[.bool false, .slice f1 0 g1, .slice (some ⟨b25, ob25, none⟩) 1 g2] 25))).c0
  have l35 := ((B19.out.al (.cells #[.bool false, .slice f1 0 g1, .slice (some ⟨b25, ob25, none⟩) 1 g2] 25))).c1
  have l36 := ((B19.out.al (.cells #[.bool false, .slice f1 0 g1, .slice (some ⟨b25, ob25, none⟩) 1 g2] 25))).c2
  go_wp2_with fail
  obtain ⟨wo37, hwo37⟩ : ∃ wo37, wo37 = (v2.alloc (.cells #[.bool false, .slice f1 0 g1, .slice (some ⟨b25, ob25, none⟩) 1 g2] 25)) := ⟨_, rfl⟩
  rw [← hwo37]
  have z38 : v2.heap.size + 1 ≤ wo37.heap.size := by rw [hwo37]; simp only [World.size_alloc]; omega
  have B39 : Hid (Abx wo37 (w.heap.size) (.bool false) (.slice sa1 sz1.length sc1) (.slice da1 dz1.length dc1)) := by rw [hwo37]; exact (B18.out.al (.cells #[.bool false, .slice f1 0 g1, .slice (some ⟨b25, ob25, none⟩) 1 g2] 25))
  have B40 : Hid (Abx wo37 (w.heap.size + 1) (.bool c2) (.slice sa2 sz2.length sc2) (.slice da2 dz2.length dc2)) := by rw [hwo37]; exact (B19.out.al (.cells #[.bool false, .slice f1 0 g1, .slice (some ⟨b25, ob25, none⟩) 1 g2] 25))
  have B41 : Hid (Abx wo37 (v2.heap.size) (.bool false) (.slice f1 0 g1) (.slice (some ⟨b25, ob25, none⟩) 1 g2)) := by rw [hwo37]; exact n26
  have L42 : Hid (MidC (v1.heap.size) (v2.heap.size) wo37 (f1) ([]) (g1)) := by rw [hwo37]; exact (L23.out.al (by omega) (.cells #[.bool false, .slice f1 0 g1, .slice (some ⟨b25, ob25, none⟩) 1 g2] 25))
  have L43 : Hid (MidC (v1.heap.size) (v2.heap.size) wo37 (some ⟨b25, ob25, none⟩) ([24]) (g2)) := by rw [hwo37]; exact (L24.out.al (by omega) (.cells #[.bool false, .slice f1 0 g1, .slice (some ⟨b25, ob25, none⟩) 1 g2] 25))
  have hb44 : Hid (Below w.heap.size w wo37) := by rw [hwo37]; exact (hb22.out.alloc (by omega) (.cells #[.bool false, .slice f1 0 g1, .slice (some ⟨b25, ob25, none⟩) 1 g2] 25))
  have zwo37 : w.heap.size ≤ wo37.heap.size := hb44.out.size
  clear hwo37 n26 l27 l28 l29 l30 l31 l32 l33 l34 l35 l36 hb22 B18 B19 L23 L24
  clear L42 L43 B41
  refine (jn_ok x hx false sa1 sc1 sz1 da1 dc1 dz1 c2 sa2 sc2 sz2 da2 dc2 dz2 _ x11 x12 ((HI1.out.1.below hb44.out).mono hb44.out.size) ((HI1.out.2.1.below hb44.out).mono hb44.out.size) HI1.out.2.2.2 x21 x22 ((HI2.out.1.below hb44.out).mono hb44.out.size) ((HI2.out.2.1.below hb44.out).mono hb44.out.size) HI2.out.2.2.2 S D HJn HJ1.out).mono ?_
  rintro e v3 ⟨xa1, xc1, ya1, yc1, rfl, hX1, hY1, hB⟩
  have z45 : wo37.heap.size ≤ v3.heap.size := hB.size
  have B46 : Hid (Abx v3 (w.heap.size) (.bool false) (.slice sa1 sz1.length sc1) (.slice da1 dz1.length dc1)) := B39.out.go hB
  have B47 : Hid (Abx v3 (w.heap.size + 1) (.bool c2) (.slice sa2 sz2.length sc2) (.slice da2 dz2.length dc2)) := B40.out.go hB
  have hb48 : Hid (Below w.heap.size w v3) := hb44.out.trans (hB.mono hb44.out.size)
  have L49 : Hid (MidC (wo37.heap.size) (v3.heap.size) v3 (xa1) (S) (xc1)) := hX1.midc
  have L50 : Hid (MidC (wo37.heap.size) (v3.heap.size) v3 (ya1) (D) (yc1)) := hY1.midc
  clear hB hb44 B39 B40 hX1 hY1
  have n51 := Abx.new v3 (.bool false) (.slice xa1 S.length xc1) (.slice ya1 D.length yc1)
  have l52 := ((B46.out.al (.cells #[.bool false, .slice xa1 S.length xc1, .slice ya1 D.length yc1] 25))).c0
  have l53 := ((B46.out.al (.cells #[.bool false, .slice xa1 S.length xc1, .slice ya1 D.length yc1] 25))).c1
  have l54 := ((B46.out.al (.cells #[.bool false, .slice xa1 S.length xc1, .slice ya1 D.length yc1] 25))).c2
  have l55 := (n51).c0
  have l56 := (n51).c1
  have l57 := (n51).c2
  go_wp2_with fail
  obtain ⟨wo58, hwo58⟩ : ∃ wo58, wo58 = (v3.alloc (.cells #[.bool false, .slice xa1 S.length xc1, .slice ya1 D.length yc1] 25)) := ⟨_, rfl⟩
  rw [← hwo58]
  have z59 : v3.heap.size + 1 ≤ wo58.heap.size := by rw [hwo58]; simp only [World.size_alloc]; omega
  have B60 : Hid (Abx wo58 (w.heap.size) (.bool false) (.slice sa1 sz1.length sc1) (.slice da1 dz1.length dc1)) := by rw [hwo58]; exact (B46.out.al (.cells #[.bool false, .slice xa1 S.length xc1, .slice ya1 D.length yc1] 25))
  have B61 : Hid (Abx wo58 (w.heap.size + 1) (.bool c2) (.slice sa2 sz2.length sc2) (.slice da2 dz2.length dc2)) := by rw [hwo58]; exact (B47.out.al (.cells #[.bool false, .slice xa1 S.length xc1, .slice ya1 D.length yc1] 25))
  have B62 : Hid (Abx wo58 (v3.heap.size) (.bool false) (.slice xa1 S.length xc1) (.slice ya1 D.length yc1)) := by rw [hwo58]; exact n51
  have L63 : Hid (MidC (wo37.heap.size) (v3.heap.size) wo58 (xa1) (S) (xc1)) := by rw [hwo58]; exact (L49.out.al (by omega) (.cells #[.bool false, .slice xa1 S.length xc1, .slice ya1 D.length yc1] 25))
  have L64 : Hid (MidC (wo37.heap.size) (v3.heap.size) wo58 (ya1) (D) (yc1)) := by rw [hwo58]; exact (L50.out.al (by omega) (.cells #[.bool false, .slice xa1 S.length xc1, .slice ya1 D.length yc1] 25))
  have hb65 : Hid (Below w.heap.size w wo58) := by rw [hwo58]; exact (hb48.out.alloc (by omega) (.cells #[.bool false, .slice xa1 S.length xc1, .slice ya1 D.length yc1] 25))
  have zwo58 : w.heap.size ≤ wo58.heap.size := hb65.out.size
  clear hwo58 n51 l52 l53 l54 l55 l56 l57 hb48 B46 B47 L49 L50
  refine (monoid_yes f F2.out _).mono ?_
  rintro e v4 ⟨rfl, hB⟩
  have z66 : wo58.heap.size ≤ v4.heap.size := hB.size
  have B67 : Hid (Abx v4 (w.heap.size) (.bool false) (.slice sa1 sz1.length sc1) (.slice da1 dz1.length dc1)) := B60.out.go hB
  have B68 : Hid (Abx v4 (w.heap.size + 1) (.bool c2) (.slice sa2 sz2.length sc2) (.slice da2 dz2.length dc2)) := B61.out.go hB
  have B69 : Hid (Abx v4 (v3.heap.size) (.bool false) (.slice xa1 S.length xc1) (.slice ya1 D.length yc1)) := B62.out.go hB
  have L70 : Hid (MidC (wo37.heap.size) (v3.heap.size) v4 (xa1) (S) (xc1)) := L63.out.go (by omega) hB
  have L71 : Hid (MidC (wo37.heap.size) (v3.heap.size) v4 (ya1) (D) (yc1)) := L64.out.go (by omega) hB
  have hb72 : Hid (Below w.heap.size w v4) := hb65.out.trans (hB.mono hb65.out.size)
  clear hB hb65 B60 B61 B62 L63 L64
  have l73 := (B69.out).c0
  have l74 := (B69.out).c1
  have l75 := (B69.out).c2
  go_wp2_with fail
  clear l73 l74 l75
  refine (rdw_no f x false xa1 xc1 S S.length rfl ya1 yc1 D D.length rfl _ hf hx (by omega) (by omega) (L70.out.is (by omega)) (L71.out.is (by omega)).1 HTD.out HRd 7 HN2.out).mono ?_
  rintro e v5 ⟨xa2, xc2, ya2, yc2, rfl, hB⟩
  have z76 : v4.heap.size ≤ v5.heap.size := hB.size
  have B77 : Hid (Abx v5 (w.heap.size) (.bool false) (.slice sa1 sz1.length sc1) (.slice da1 dz1.length dc1)) := B67.out.go hB
  have B78 : Hid (Abx v5 (w.heap.size + 1) (.bool c2) (.slice sa2 sz2.length sc2) (.slice da2 dz2.length dc2)) := B68.out.go hB
  have B79 : Hid (Abx v5 (v3.heap.size) (.bool false) (.slice xa1 S.length xc1) (.slice ya1 D.length yc1)) := B69.out.go hB
  have L80 : Hid (MidC (wo37.heap.size) (v3.heap.size) v5 (xa1) (S) (xc1)) := L70.out.go (by omega) hB
  have L81 : Hid (MidC (wo37.heap.size) (v3.heap.size) v5 (ya1) (D) (yc1)) := L71.out.go (by omega) hB
  have hb82 : Hid (Below w.heap.size w v5) := hb72.out.trans (hB.mono hb72.out.size)
  clear hB hb72 B67 B68 B69 L70 L71
  have n83 := Abx.new v5 (.bool false) (.slice xa2 0 xc2) (.slice ya2 0 yc2)
  go_wp2_with fail
  obtain ⟨wo84, hwo84⟩ : ∃ wo84, wo84 = (v5.alloc (.cells #[.bool false, .slice xa2 0 xc2, .slice ya2 0 yc2] 25)) := ⟨_, rfl⟩
  rw [← hwo84]
  have z85 : v5.heap.size + 1 ≤ wo84.heap.size := by rw [hwo84]; simp only [World.size_alloc]; omega
  have B86 : Hid (Abx wo84 (w.heap.size) (.bool false) (.slice sa1 sz1.length sc1) (.slice da1 dz1.length dc1)) := by rw [hwo84]; exact (B77.out.al (.cells #[.bool false, .slice xa2 0 xc2, .slice ya2 0 yc2] 25))
  have B87 : Hid (Abx wo84 (w.heap.size + 1) (.bool c2) (.slice sa2 sz2.length sc2) (.slice da2 dz2.length dc2)) := by rw [hwo84]; exact (B78.out.al (.cells #[.bool false, .slice xa2 0 xc2, .slice ya2 0 yc2] 25))
  have B88 : Hid (Abx wo84 (v3.heap.size) (.bool false) (.slice xa1 S.length xc1) (.slice ya1 D.length yc1)) := by rw [hwo84]; exact (B79.out.al (.cells #[.bool false, .slice xa2 0 xc2, .slice ya2 0 yc2] 25))
  have B89 : Hid (Abx wo84 (v5.heap.size) (.bool false) (.slice xa2 0 xc2) (.slice ya2 0 yc2)) := by rw [hwo84]; exact n83
  have L90 : Hid (MidC (wo37.heap.size) (v3.heap.size) wo84 (xa1) (S) (xc1)) := by rw [hwo84]; exact (L80.out.al (by omega) (.cells #[.bool false, .slice xa2 0 xc2, .slice ya2 0 yc2] 25))
  have L91 : Hid (MidC (wo37.heap.size) (v3.heap.size) wo84 (ya1) (D) (yc1)) := by rw [hwo84]; exact (L81.out.al (by omega) (.cells #[.bool false, .slice xa2 0 xc2, .slice ya2 0 yc2] 25))
  have hb92 : Hid (Below w.heap.size w wo84) := by rw [hwo84]; exact (hb82.out.alloc (by omega) (.cells #[.bool false, .slice xa2 0 xc2, .slice ya2 0 yc2] 25))
  have zwo84 : w.heap.size ≤ wo84.heap.size := hb92.out.size
  clear hwo84 n83 hb82 B77 B78 B79 L80 L81
  refine (error_same 7 _ (HG.out.below hb92.out HG.out.pos)).mono ?_
  rintro e v6 ⟨rfl, hB⟩
  have z93 : wo84.heap.size ≤ v6.heap.size := hB.size
  have B94 : Hid (Abx v6 (w.heap.size) (.bool false) (.slice sa1 sz1.length sc1) (.slice da1 dz1.length dc1)) := B86.out.go hB
  have B95 : Hid (Abx v6 (w.heap.size + 1) (.bool c2) (.slice sa2 sz2.length sc2) (.slice da2 dz2.length dc2)) := B87.out.go hB
  have B96 : Hid (Abx v6 (v3.heap.size) (.bool false) (.slice xa1 S.length xc1) (.slice ya1 D.length yc1)) := B88.out.go hB
  have B97 : Hid (Abx v6 (v5.heap.size) (.bool false) (.slice xa2 0 xc2) (.slice ya2 0 yc2)) := B89.out.go hB
  have L98 : Hid (MidC (wo37.heap.size) (v3.heap.size) v6 (xa1) (S) (xc1)) := L90.out.go (by omega) hB
  have L99 : Hid (MidC (wo37.heap.size) (v3.heap.size) v6 (ya1) (D) (yc1)) := L91.out.go (by omega) hB
  have hb100 : Hid (Below w.heap.size w v6) := hb92.out.trans (hB.mono hb92.out.size)
  clear hB hb92 B86 B87 B88 B89 L90 L91
  go_wp2_with fail
  go_ret
  exact ⟨rfl, hb100.out⟩
set_option maxRecDepth 100000 in
set_option maxHeartbeats 8000000 in
theorem joins_ok (HJn : CJn) (HRd : CRd) (H2 : C2d) (f x : Int) (hf : In64 f) (hx : In64 x) (c1 : Bool) (sa1 : Option Addr) (sc1 : Nat) (sz1 : List Int) (da1 : Option Addr) (dc1 : Nat) (dz1 : List Int) (c2 : Bool) (sa2 : Option Addr) (sc2 : Nat) (sz2 : List Int) (da2 : Option Addr) (dc2 : Nat) (dz2 : List Int) (w : World) (hg : HasErr w) (w8 : IsArrD w sa1 sz1 sc1 da1 dz1 dc1) (w9 : IsArrD w sa2 sz2 sc2 da2 dz2 dc2) (F1 : Hid (jnE x c1 sz1 dz1 c2 sz2 dz2 = 0)) (hc : c1 = false) (F2 : Hid (Mon f)) (G1 : Hid (errOf (xout x.toNat sz1) = 0)) :
    Calls Tryd.prog 3 #[.int .i64 f, .int .i64 x, .agg #[.bool c1, .slice sa1 sz1.length sc1, .slice da1 dz1.length dc1], .agg #[.bool c2, .slice sa2 sz2.length sc2, .slice da2 dz2.length dc2]] w fun e w' => e = .returned (.bool true) ∧ Below w.heap.size w w' := by
  subst hc
  obtain rfl : c2 = false := (jnE_zero.1 F1.out).2.2.2.2.2.2.1.symm
  obtain ⟨S, hS⟩ : ∃ S, S = jnS x.toNat sz1 sz2 := ⟨_, rfl⟩
  obtain ⟨D, hD⟩ : ∃ D, D = jnD x.toNat sz1 dz1 sz2 dz2 := ⟨_, rfl⟩
  have HJ1 : Hid (jnE x false sz1 dz1 false sz2 dz2 = 0 ∧ jnS x.toNat sz1 sz2 = S ∧ jnD x.toNat sz1 dz1 sz2 dz2 = D) := ⟨F1.out, hS.symm, hD.symm⟩
  have T1 := w8.2.2.2.2.2
  have T2 := w9.2.2.2.2.2
  have jz := jnE_zero.1 F1.out
  have TD : ∀ j, In64 (nth D j) := by rw [hD]; exact jn_64 F1.out T1 T2
  have HTD : Hid (∀ j, In64 (nth D j)) := TD
  have fD : flawE false S D = 0 := by rw [hS, hD]; exact jn_flaw F1.out
  have ls := flawE_short fD
  obtain ⟨X, hX⟩ : ∃ X, X = xout x.toNat sz1 := ⟨_, rfl⟩
  obtain ⟨A, hA⟩ : ∃ A, A = rdD f sz1 dz1 x.toNat := ⟨_, rfl⟩
  obtain ⟨B, hB⟩ : ∃ B, B = rdD f sz2 dz2 x.toNat := ⟨_, rfl⟩
  obtain ⟨Z, hZ⟩ : ∃ Z, Z = e2V f false X A false X B := ⟨_, rfl⟩
  obtain ⟨k1, k2, k3, k4, k5, k6, k7, k8⟩ := jn_parts F1.out F2.out T1 T2 G1.out
  rw [← hX, ← hA, ← hB] at k4 k6
  rw [← hZ] at k6
  rw [← hS, ← hD] at k1 k6
  rw [← hS] at k7
  rw [← hX] at k5 k7 k8
  have HR2 : Hid (rdE f x false S D = 0 ∧ xout x.toNat S = X ∧ rdD f S D x.toNat = Z) := ⟨k1, k7, k6⟩
  have HR3 : Hid (rdE f x false sz1 dz1 = 0 ∧ xout x.toNat sz1 = X ∧ rdD f sz1 dz1 x.toNat = A) := ⟨k2, hX.symm, hA.symm⟩
  have HR4 : Hid (rdE f x false sz2 dz2 = 0 ∧ xout x.toNat sz2 = X ∧ rdD f sz2 dz2 x.toNat = B) := ⟨k3, k8, hB.symm⟩
  have HE2 : Hid (e2E f false X A false X B = 0 ∧ shp X X = X ∧ e2V f false X A false X B = Z) := ⟨k4, k5, hZ.symm⟩
  have HTA : Hid ((∀ j, In64 (nth A j)) ∧ ∀ j, In64 (nth B j)) := ⟨by rw [hA]; exact rd_64 (rdE_zero.1 k2).2.2.1 T1, by rw [hB]; exact rd_64 (rdE_zero.1 k3).2.2.1 T2⟩
  have lX : X.length ≤ 4096 ∧ A.length ≤ 4096 := by rw [hX, hA]; exact ⟨(errS (rdE_zero.1 k2).2.2.1).1, by unfold rdD; rw [TA_length]; exact (errS (rdE_zero.1 k2).2.2.1).2⟩
  have lB : B.length ≤ 4096 := by rw [hB]; unfold rdD; rw [TA_length]; exact (errS (rdE_zero.1 k3).2.2.1).2
  have lZ : Z.length ≤ 4096 := by rw [← k6]; unfold rdD; rw [TA_length]; exact (errS (rdE_zero.1 k1).2.2.1).2
  clear hS hD T1 T2 jz TD fD hX hA hB hZ k1 k2 k3 k4 k5 k6 k7 k8
  obtain ⟨x11, x12, x3, x4, s64, T⟩ := w8
  have HI1 : Hid (IsC w.heap.size w sa1 sz1 sc1 ∧ IsC w.heap.size w da1 dz1 dc1 ∧ (∀ j, In64 (nth sz1 j)) ∧ ∀ j, In64 (nth dz1 j)) := ⟨x3, x4, s64, T⟩
  clear x3 x4 T s64
  obtain ⟨x21, x22, x3, x4, s64, T⟩ := w9
  have HI2 : Hid (IsC w.heap.size w sa2 sz2 sc2 ∧ IsC w.heap.size w da2 dz2 dc2 ∧ (∀ j, In64 (nth sz2 j)) ∧ ∀ j, In64 (nth dz2 j)) := ⟨x3, x4, s64, T⟩
  clear x3 x4 T s64
  have HG : Hid (HasErr w) := hg
  clear hg
  have n1 := Abx.new w (.bool false) (.slice sa1 sz1.length sc1) (.slice da1 dz1.length dc1)
  have n2 := Abx.new (w.alloc (.cells #[.bool false, .slice sa1 sz1.length sc1, .slice da1 dz1.length dc1] 25)) (.bool false) (.slice sa2 sz2.length sc2) (.slice da2 dz2.length dc2)
  simp only [World.size_alloc] at n2
  have n3 := lit_mid ((w.alloc (.cells #[.bool false, .slice sa1 sz1.length sc1, .slice da1 dz1.length dc1] 25)).alloc (.cells #[.bool false, .slice sa2 sz2.length sc2, .slice da2 dz2.length dc2] 25)) 3 [2, 3, 4] 3 rfl
  simp only [World.size_alloc, List.map_cons, List.map_nil] at n3
  go_enter Tryd.func3, Tryd.ntmps3
  go_wp2_with fail
  obtain ⟨wo4, hwo4⟩ : ∃ wo4, wo4 = (((w.alloc (.cells #[.bool false, .slice sa1 sz1.length sc1, .slice da1 dz1.length dc1] 25)).alloc (.cells #[.bool false, .slice sa2 sz2.length sc2, .slice da2 dz2.length dc2] 25)).alloc (.cells #[.int .i64 2, .int .i64 3, .int .i64 4] 3)) := ⟨_, rfl⟩
  rw [← hwo4]
  have z5 : w.heap.size + 1 + 1 + 1 ≤ wo4.heap.size := by rw [hwo4]; simp only [World.size_alloc]; omega
  have B6 : Hid (Abx wo4 (w.heap.size) (.bool false) (.slice sa1 sz1.length sc1) (.slice da1 dz1.length dc1)) := by rw [hwo4]; exact ((n1.al (.cells #[.bool false, .slice sa2 sz2.length sc2, .slice da2 dz2.length dc2] 25)).al (.cells #[.int .i64 2, .int .i64 3, .int .i64 4] 3))
  have B7 : Hid (Abx wo4 (w.heap.size + 1) (.bool false) (.slice sa2 sz2.length sc2) (.slice da2 dz2.length dc2)) := by rw [hwo4]; exact (n2.al (.cells #[.int .i64 2, .int .i64 3, .int .i64 4] 3))
  have L8 : Hid (MidC (w.heap.size + 1 + 1) (w.heap.size + 1 + 1 + 1) wo4 (some ⟨w.heap.size + 1 + 1, 0, none⟩) ([2, 3, 4]) (3)) := by rw [hwo4]; exact n3
  have hb9 : Hid (Below w.heap.size w wo4) := by rw [hwo4]; exact ((((Below.refl w.heap.size w).alloc (by omega) (.cells #[.bool false, .slice sa1 sz1.length sc1, .slice da1 dz1.length dc1] 25)).alloc (by simp only [World.size_alloc]; omega) (.cells #[.bool false, .slice sa2 sz2.length sc2, .slice da2 dz2.length dc2] 25)).alloc (by simp only [World.size_alloc]; omega) (.cells #[.int .i64 2, .int .i64 3, .int .i64 4] 3))
  have zwo4 : w.heap.size ≤ wo4.heap.size := hb9.out.size
  clear hwo4 n1 n2 n3
  refine (vec_c (some ⟨w.heap.size + 1 + 1, 0, none⟩) 3 [2, 3, 4] (by simp) _ (L8.out.is (by omega)).1).mono ?_
  rintro e v1 ⟨vap, vcp, gap, gcp, rfl, hVp, hGp, hB⟩
  have z10 : wo4.heap.size ≤ v1.heap.size := hB.size
  have B11 : Hid (Abx v1 (w.heap.size) (.bool false) (.slice sa1 sz1.length sc1) (.slice da1 dz1.length dc1)) := B6.out.go hB
  have B12 : Hid (Abx v1 (w.heap.size + 1) (.bool false) (.slice sa2 sz2.length sc2) (.slice da2 dz2.length dc2)) := B7.out.go hB
  have L13 : Hid (MidC (w.heap.size + 1 + 1) (w.heap.size + 1 + 1 + 1) v1 (some ⟨w.heap.size + 1 + 1, 0, none⟩) ([2, 3, 4]) (3)) := L8.out.go (by omega) hB
  have hb14 : Hid (Below w.heap.size w v1) := hb9.out.trans (hB.mono hb9.out.size)
  have L15 : Hid (MidC (wo4.heap.size) (v1.heap.size) v1 (vap) ([(3 : Int)]) (vcp)) := hVp.midc
  have L16 : Hid (MidC (wo4.heap.size) (v1.heap.size) v1 (gap) ([2, 3, 4]) (gcp)) := hGp.midc
  clear hB hb9 B6 B7 L8 hVp hGp
  clear L13
  go_wp2_with fail
  refine (rdw_ok 3 0 false vap vcp [(3 : Int)] 1 rfl gap gcp [2, 3, 4] 3 rfl _ (by unfold In64; decide) (by unfold In64; decide) (by decide) (by decide) (L15.out.is (by omega)) (L16.out.is (by omega)).1 (lit12 (by decide)) [] [24] HRd (by show rdE 3 0 false [(3 : Int)] [2, 3, 4] = 0 ∧ xout (0 : Int).toNat [(3 : Int)] = [] ∧ rdD 3 [(3 : Int)] [2, 3, 4] (0 : Int).toNat = [24]; decide +kernel)).mono ?_
  rintro e v2 ⟨f1, g1, f2, g2, rfl, hX0, hY0, hB⟩
  have z17 : v1.heap.size ≤ v2.heap.size := hB.size
  have B18 : Hid (Abx v2 (w.heap.size) (.bool false) (.slice sa1 sz1.length sc1) (.slice da1 dz1.length dc1)) := B11.out.go hB
  have B19 : Hid (Abx v2 (w.heap.size + 1) (.bool false) (.slice sa2 sz2.length sc2) (.slice da2 dz2.length dc2)) := B12.out.go hB
  have L20 : Hid (MidC (wo4.heap.size) (v1.heap.size) v2 (vap) ([(3 : Int)]) (vcp)) := L15.out.go (by omega) hB
  have L21 : Hid (MidC (wo4.heap.size) (v1.heap.size) v2 (gap) ([2, 3, 4]) (gcp)) := L16.out.go (by omega) hB
  have hb22 : Hid (Below w.heap.size w v2) := hb14.out.trans (hB.mono hb14.out.size)
  have L23 : Hid (MidC (v1.heap.size) (v2.heap.size) v2 (f1) ([]) (g1)) := hX0.midc
  have L24 : Hid (MidC (v1.heap.size) (v2.heap.size) v2 (f2) ([24]) (g2)) := hY0.midc
  clear hB hb14 B11 B12 L15 L16 hX0 hY0
  clear L20 L21
  obtain ⟨b25, ob25, rfl, _, _, _, _⟩ := L24.out.at (i := 0) (by decide)
  have n26 := Abx.new v2 (.bool false) (.slice f1 0 g1) (.slice (some ⟨b25, ob25, none⟩) 1 g2)
  have l27 := (n26).c0
  have l28 := (n26).c1
  have l29 := (n26).c2
  obtain ⟨_, _, l30e, _, _, l30, _⟩ := ((L24.out.al (by omega) (.cells #[.bool false, .slice f1 0 g1, .slice (some ⟨b25, ob25, none⟩) 1 g2] 25))).at (i := 0) (by decide)
  cases l30e
  try simp only [Nat.add_zero] at l30
  have l31 := ((B18.out.al (.cells #[.bool false, .slice f1 0 g1, .slice (some ⟨b25, ob25, none⟩) 1 g2] 25))).c0
  have l32 := ((B18.out.al (.cells #[.bool false, .slice f1 0 g1, .slice (some ⟨b25, ob25, none⟩) 1 g2] 25))).c1
  have l33 := ((B18.out.al (.cells #[.bool false, .slice f1 0 g1, .slice (some ⟨b25, ob25, none⟩) 1 g2] 25))).c2
  have l34 := ((B19.out.al (.cells #[.bool false, .slice f1 0 g1, .slice (some ⟨b25, ob25, none⟩) 1 g2] 25))).c0
  have l35 := ((B19.out.al (.cells #[.bool false, .slice f1 0 g1, .slice (some ⟨b25, ob25, none⟩) 1 g2] 25))).c1
  have l36 := ((B19.out.al (.cells #[.bool false, .slice f1 0 g1, .slice (some ⟨b25, ob25, none⟩) 1 g2] 25))).c2
  go_wp2_with fail
  obtain ⟨wo37, hwo37⟩ : ∃ wo37, wo37 = (v2.alloc (.cells #[.bool false, .slice f1 0 g1, .slice (some ⟨b25, ob25, none⟩) 1 g2] 25)) := ⟨_, rfl⟩
  rw [← hwo37]
  have z38 : v2.heap.size + 1 ≤ wo37.heap.size := by rw [hwo37]; simp only [World.size_alloc]; omega
  have B39 : Hid (Abx wo37 (w.heap.size) (.bool false) (.slice sa1 sz1.length sc1) (.slice da1 dz1.length dc1)) := by rw [hwo37]; exact (B18.out.al (.cells #[.bool false, .slice f1 0 g1, .slice (some ⟨b25, ob25, none⟩) 1 g2] 25))
  have B40 : Hid (Abx wo37 (w.heap.size + 1) (.bool false) (.slice sa2 sz2.length sc2) (.slice da2 dz2.length dc2)) := by rw [hwo37]; exact (B19.out.al (.cells #[.bool false, .slice f1 0 g1, .slice (some ⟨b25, ob25, none⟩) 1 g2] 25))
  have B41 : Hid (Abx wo37 (v2.heap.size) (.bool false) (.slice f1 0 g1) (.slice (some ⟨b25, ob25, none⟩) 1 g2)) := by rw [hwo37]; exact n26
  have L42 : Hid (MidC (v1.heap.size) (v2.heap.size) wo37 (f1) ([]) (g1)) := by rw [hwo37]; exact (L23.out.al (by omega) (.cells #[.bool false, .slice f1 0 g1, .slice (some ⟨b25, ob25, none⟩) 1 g2] 25))
  have L43 : Hid (MidC (v1.heap.size) (v2.heap.size) wo37 (some ⟨b25, ob25, none⟩) ([24]) (g2)) := by rw [hwo37]; exact (L24.out.al (by omega) (.cells #[.bool false, .slice f1 0 g1, .slice (some ⟨b25, ob25, none⟩) 1 g2] 25))
  have hb44 : Hid (Below w.heap.size w wo37) := by rw [hwo37]; exact (hb22.out.alloc (by omega) (.cells #[.bool false, .slice f1 0 g1, .slice (some ⟨b25, ob25, none⟩) 1 g2] 25))
  have zwo37 : w.heap.size ≤ wo37.heap.size := hb44.out.size
  clear hwo37 n26 l27 l28 l29 l30 l31 l32 l33 l34 l35 l36 hb22 B18 B19 L23 L24
  clear L42 L43 B41
  refine (jn_ok x hx false sa1 sc1 sz1 da1 dc1 dz1 false sa2 sc2 sz2 da2 dc2 dz2 _ x11 x12 ((HI1.out.1.below hb44.out).mono hb44.out.size) ((HI1.out.2.1.below hb44.out).mono hb44.out.size) HI1.out.2.2.2 x21 x22 ((HI2.out.1.below hb44.out).mono hb44.out.size) ((HI2.out.2.1.below hb44.out).mono hb44.out.size) HI2.out.2.2.2 S D HJn HJ1.out).mono ?_
  rintro e v3 ⟨xa1, xc1, ya1, yc1, rfl, hX1, hY1, hB⟩
  have z45 : wo37.heap.size ≤ v3.heap.size := hB.size
  have B46 : Hid (Abx v3 (w.heap.size) (.bool false) (.slice sa1 sz1.length sc1) (.slice da1 dz1.length dc1)) := B39.out.go hB
  have B47 : Hid (Abx v3 (w.heap.size + 1) (.bool false) (.slice sa2 sz2.length sc2) (.slice da2 dz2.length dc2)) := B40.out.go hB
  have hb48 : Hid (Below w.heap.size w v3) := hb44.out.trans (hB.mono hb44.out.size)
  have L49 : Hid (MidC (wo37.heap.size) (v3.heap.size) v3 (xa1) (S) (xc1)) := hX1.midc
  have L50 : Hid (MidC (wo37.heap.size) (v3.heap.size) v3 (ya1) (D) (yc1)) := hY1.midc
  clear hB hb44 B39 B40 hX1 hY1
  have n51 := Abx.new v3 (.bool false) (.slice xa1 S.length xc1) (.slice ya1 D.length yc1)
  have l52 := ((B46.out.al (.cells #[.bool false, .slice xa1 S.length xc1, .slice ya1 D.length yc1] 25))).c0
  have l53 := ((B46.out.al (.cells #[.bool false, .slice xa1 S.length xc1, .slice ya1 D.length yc1] 25))).c1
  have l54 := ((B46.out.al (.cells #[.bool false, .slice xa1 S.length xc1, .slice ya1 D.length yc1] 25))).c2
  have l55 := (n51).c0
  have l56 := (n51).c1
  have l57 := (n51).c2
  go_wp2_with fail
  obtain ⟨wo58, hwo58⟩ : ∃ wo58, wo58 = (v3.alloc (.cells #[.bool false, .slice xa1 S.length xc1, .slice ya1 D.length yc1] 25)) := ⟨_, rfl⟩
  rw [← hwo58]
  have z59 : v3.heap.size + 1 ≤ wo58.heap.size := by rw [hwo58]; simp only [World.size_alloc]; omega
  have B60 : Hid (Abx wo58 (w.heap.size) (.bool false) (.slice sa1 sz1.length sc1) (.slice da1 dz1.length dc1)) := by rw [hwo58]; exact (B46.out.al (.cells #[.bool false, .slice xa1 S.length xc1, .slice ya1 D.length yc1] 25))
  have B61 : Hid (Abx wo58 (w.heap.size + 1) (.bool false) (.slice sa2 sz2.length sc2) (.slice da2 dz2.length dc2)) := by rw [hwo58]; exact (B47.out.al (.cells #[.bool false, .slice xa1 S.length xc1, .slice ya1 D.length yc1] 25))
  have B62 : Hid (Abx wo58 (v3.heap.size) (.bool false) (.slice xa1 S.length xc1) (.slice ya1 D.length yc1)) := by rw [hwo58]; exact n51
  have L63 : Hid (MidC (wo37.heap.size) (v3.heap.size) wo58 (xa1) (S) (xc1)) := by rw [hwo58]; exact (L49.out.al (by omega) (.cells #[.bool false, .slice xa1 S.length xc1, .slice ya1 D.length yc1] 25))
  have L64 : Hid (MidC (wo37.heap.size) (v3.heap.size) wo58 (ya1) (D) (yc1)) := by rw [hwo58]; exact (L50.out.al (by omega) (.cells #[.bool false, .slice xa1 S.length xc1, .slice ya1 D.length yc1] 25))
  have hb65 : Hid (Below w.heap.size w wo58) := by rw [hwo58]; exact (hb48.out.alloc (by omega) (.cells #[.bool false, .slice xa1 S.length xc1, .slice ya1 D.length yc1] 25))
  have zwo58 : w.heap.size ≤ wo58.heap.size := hb65.out.size
  clear hwo58 n51 l52 l53 l54 l55 l56 l57 hb48 B46 B47 L49 L50
  refine (monoid_yes f F2.out _).mono ?_
  rintro e v4 ⟨rfl, hB⟩
  have z66 : wo58.heap.size ≤ v4.heap.size := hB.size
  have B67 : Hid (Abx v4 (w.heap.size) (.bool false) (.slice sa1 sz1.length sc1) (.slice da1 dz1.length dc1)) := B60.out.go hB
  have B68 : Hid (Abx v4 (w.heap.size + 1) (.bool false) (.slice sa2 sz2.length sc2) (.slice da2 dz2.length dc2)) := B61.out.go hB
  have B69 : Hid (Abx v4 (v3.heap.size) (.bool false) (.slice xa1 S.length xc1) (.slice ya1 D.length yc1)) := B62.out.go hB
  have L70 : Hid (MidC (wo37.heap.size) (v3.heap.size) v4 (xa1) (S) (xc1)) := L63.out.go (by omega) hB
  have L71 : Hid (MidC (wo37.heap.size) (v3.heap.size) v4 (ya1) (D) (yc1)) := L64.out.go (by omega) hB
  have hb72 : Hid (Below w.heap.size w v4) := hb65.out.trans (hB.mono hb65.out.size)
  clear hB hb65 B60 B61 B62 L63 L64
  have l73 := (B69.out).c0
  have l74 := (B69.out).c1
  have l75 := (B69.out).c2
  go_wp2_with fail
  clear l73 l74 l75
  refine (rdw_ok f x false xa1 xc1 S S.length rfl ya1 yc1 D D.length rfl _ hf hx (by omega) (by omega) (L70.out.is (by omega)) (L71.out.is (by omega)).1 HTD.out X Z HRd HR2.out).mono ?_
  rintro e v5 ⟨xa2, xc2, ya2, yc2, rfl, hX2, hY2, hB⟩
  have z76 : v4.heap.size ≤ v5.heap.size := hB.size
  have B77 : Hid (Abx v5 (w.heap.size) (.bool false) (.slice sa1 sz1.length sc1) (.slice da1 dz1.length dc1)) := B67.out.go hB
  have B78 : Hid (Abx v5 (w.heap.size + 1) (.bool false) (.slice sa2 sz2.length sc2) (.slice da2 dz2.length dc2)) := B68.out.go hB
  have B79 : Hid (Abx v5 (v3.heap.size) (.bool false) (.slice xa1 S.length xc1) (.slice ya1 D.length yc1)) := B69.out.go hB
  have L80 : Hid (MidC (wo37.heap.size) (v3.heap.size) v5 (xa1) (S) (xc1)) := L70.out.go (by omega) hB
  have L81 : Hid (MidC (wo37.heap.size) (v3.heap.size) v5 (ya1) (D) (yc1)) := L71.out.go (by omega) hB
  have hb82 : Hid (Below w.heap.size w v5) := hb72.out.trans (hB.mono hb72.out.size)
  have L83 : Hid (MidC (v4.heap.size) (v5.heap.size) v5 (xa2) (X) (xc2)) := hX2.midc
  have L84 : Hid (MidC (v4.heap.size) (v5.heap.size) v5 (ya2) (Z) (yc2)) := hY2.midc
  clear hB hb72 B67 B68 B69 L70 L71 hX2 hY2
  clear L80 L81 B79
  have n85 := Abx.new v5 (.bool false) (.slice xa2 X.length xc2) (.slice ya2 Z.length yc2)
  have l86 := ((B77.out.al (.cells #[.bool false, .slice xa2 X.length xc2, .slice ya2 Z.length yc2] 25))).c0
  have l87 := ((B77.out.al (.cells #[.bool false, .slice xa2 X.length xc2, .slice ya2 Z.length yc2] 25))).c1
  have l88 := ((B77.out.al (.cells #[.bool false, .slice xa2 X.length xc2, .slice ya2 Z.length yc2] 25))).c2
  go_wp2_with fail
  obtain ⟨wo89, hwo89⟩ : ∃ wo89, wo89 = (v5.alloc (.cells #[.bool false, .slice xa2 X.length xc2, .slice ya2 Z.length yc2] 25)) := ⟨_, rfl⟩
  rw [← hwo89]
  have z90 : v5.heap.size + 1 ≤ wo89.heap.size := by rw [hwo89]; simp only [World.size_alloc]; omega
  have B91 : Hid (Abx wo89 (w.heap.size) (.bool false) (.slice sa1 sz1.length sc1) (.slice da1 dz1.length dc1)) := by rw [hwo89]; exact (B77.out.al (.cells #[.bool false, .slice xa2 X.length xc2, .slice ya2 Z.length yc2] 25))
  have B92 : Hid (Abx wo89 (w.heap.size + 1) (.bool false) (.slice sa2 sz2.length sc2) (.slice da2 dz2.length dc2)) := by rw [hwo89]; exact (B78.out.al (.cells #[.bool false, .slice xa2 X.length xc2, .slice ya2 Z.length yc2] 25))
  have B93 : Hid (Abx wo89 (v5.heap.size) (.bool false) (.slice xa2 X.length xc2) (.slice ya2 Z.length yc2)) := by rw [hwo89]; exact n85
  have L94 : Hid (MidC (v4.heap.size) (v5.heap.size) wo89 (xa2) (X) (xc2)) := by rw [hwo89]; exact (L83.out.al (by omega) (.cells #[.bool false, .slice xa2 X.length xc2, .slice ya2 Z.length yc2] 25))
  have L95 : Hid (MidC (v4.heap.size) (v5.heap.size) wo89 (ya2) (Z) (yc2)) := by rw [hwo89]; exact (L84.out.al (by omega) (.cells #[.bool false, .slice xa2 X.length xc2, .slice ya2 Z.length yc2] 25))
  have hb96 : Hid (Below w.heap.size w wo89) := by rw [hwo89]; exact (hb82.out.alloc (by omega) (.cells #[.bool false, .slice xa2 X.length xc2, .slice ya2 Z.length yc2] 25))
  have zwo89 : w.heap.size ≤ wo89.heap.size := hb96.out.size
  clear hwo89 n85 l86 l87 l88 hb82 B77 B78 L83 L84
  refine (rdw_ok f x false sa1 sc1 sz1 sz1.length rfl da1 dc1 dz1 dz1.length rfl _ hf hx x11 x12 ((HI1.out.1.below hb96.out).mono hb96.out.size) ((HI1.out.2.1.1.below hb96.out).mono hb96.out.size) HI1.out.2.2.2 X A HRd HR3.out).mono ?_
  rintro e v6 ⟨xa3, xc3, ya3, yc3, rfl, hX3, hY3, hB⟩
  have z97 : wo89.heap.size ≤ v6.heap.size := hB.size
  have B98 : Hid (Abx v6 (w.heap.size) (.bool false) (.slice sa1 sz1.length sc1) (.slice da1 dz1.length dc1)) := B91.out.go hB
  have B99 : Hid (Abx v6 (w.heap.size + 1) (.bool false) (.slice sa2 sz2.length sc2) (.slice da2 dz2.length dc2)) := B92.out.go hB
  have B100 : Hid (Abx v6 (v5.heap.size) (.bool false) (.slice xa2 X.length xc2) (.slice ya2 Z.length yc2)) := B93.out.go hB
  have L101 : Hid (MidC (v4.heap.size) (v5.heap.size) v6 (xa2) (X) (xc2)) := L94.out.go (by omega) hB
  have L102 : Hid (MidC (v4.heap.size) (v5.heap.size) v6 (ya2) (Z) (yc2)) := L95.out.go (by omega) hB
  have hb103 : Hid (Below w.heap.size w v6) := hb96.out.trans (hB.mono hb96.out.size)
  have L104 : Hid (MidC (wo89.heap.size) (v6.heap.size) v6 (xa3) (X) (xc3)) := hX3.midc
  have L105 : Hid (MidC (wo89.heap.size) (v6.heap.size) v6 (ya3) (A) (yc3)) := hY3.midc
  clear hB hb96 B91 B92 B93 L94 L95 hX3 hY3
  have n106 := Abx.new v6 (.bool false) (.slice xa3 X.length xc3) (.slice ya3 A.length yc3)
  have l107 := ((B99.out.al (.cells #[.bool false, .slice xa3 X.length xc3, .slice ya3 A.length yc3] 25))).c0
  have l108 := ((B99.out.al (.cells #[.bool false, .slice xa3 X.length xc3, .slice ya3 A.length yc3] 25))).c1
  have l109 := ((B99.out.al (.cells #[.bool false, .slice xa3 X.length xc3, .slice ya3 A.length yc3] 25))).c2
  go_wp2_with fail
  obtain ⟨wo110, hwo110⟩ : ∃ wo110, wo110 = (v6.alloc (.cells #[.bool false, .slice xa3 X.length xc3, .slice ya3 A.length yc3] 25)) := ⟨_, rfl⟩
  rw [← hwo110]
  have z111 : v6.heap.size + 1 ≤ wo110.heap.size := by rw [hwo110]; simp only [World.size_alloc]; omega
  have B112 : Hid (Abx wo110 (w.heap.size) (.bool false) (.slice sa1 sz1.length sc1) (.slice da1 dz1.length dc1)) := by rw [hwo110]; exact (B98.out.al (.cells #[.bool false, .slice xa3 X.length xc3, .slice ya3 A.length yc3] 25))
  have B113 : Hid (Abx wo110 (w.heap.size + 1) (.bool false) (.slice sa2 sz2.length sc2) (.slice da2 dz2.length dc2)) := by rw [hwo110]; exact (B99.out.al (.cells #[.bool false, .slice xa3 X.length xc3, .slice ya3 A.length yc3] 25))
  have B114 : Hid (Abx wo110 (v5.heap.size) (.bool false) (.slice xa2 X.length xc2) (.slice ya2 Z.length yc2)) := by rw [hwo110]; exact (B100.out.al (.cells #[.bool false, .slice xa3 X.length xc3, .slice ya3 A.length yc3] 25))
  have B115 : Hid (Abx wo110 (v6.heap.size) (.bool false) (.slice xa3 X.length xc3) (.slice ya3 A.length yc3)) := by rw [hwo110]; exact n106
  have L116 : Hid (MidC (v4.heap.size) (v5.heap.size) wo110 (xa2) (X) (xc2)) := by rw [hwo110]; exact (L101.out.al (by omega) (.cells #[.bool false, .slice xa3 X.length xc3, .slice ya3 A.length yc3] 25))
  have L117 : Hid (MidC (v4.heap.size) (v5.heap.size) wo110 (ya2) (Z) (yc2)) := by rw [hwo110]; exact (L102.out.al (by omega) (.cells #[.bool false, .slice xa3 X.length xc3, .slice ya3 A.length yc3] 25))
  have L118 : Hid (MidC (wo89.heap.size) (v6.heap.size) wo110 (xa3) (X) (xc3)) := by rw [hwo110]; exact (L104.out.al (by omega) (.cells #[.bool false, .slice xa3 X.length xc3, .slice ya3 A.length yc3] 25))
  have L119 : Hid (MidC (wo89.heap.size) (v6.heap.size) wo110 (ya3) (A) (yc3)) := by rw [hwo110]; exact (L105.out.al (by omega) (.cells #[.bool false, .slice xa3 X.length xc3, .slice ya3 A.length yc3] 25))
  have hb120 : Hid (Below w.heap.size w wo110) := by rw [hwo110]; exact (hb103.out.alloc (by omega) (.cells #[.bool false, .slice xa3 X.length xc3, .slice ya3 A.length yc3] 25))
  have zwo110 : w.heap.size ≤ wo110.heap.size := hb120.out.size
  clear hwo110 n106 l107 l108 l109 hb103 B98 B99 B100 L101 L102 L104 L105
  refine (rdw_ok f x false sa2 sc2 sz2 sz2.length rfl da2 dc2 dz2 dz2.length rfl _ hf hx x21 x22 ((HI2.out.1.below hb120.out).mono hb120.out.size) ((HI2.out.2.1.1.below hb120.out).mono hb120.out.size) HI2.out.2.2.2 X B HRd HR4.out).mono ?_
  rintro e v7 ⟨xa4, xc4, ya4, yc4, rfl, hX4, hY4, hB⟩
  have z121 : wo110.heap.size ≤ v7.heap.size := hB.size
  have B122 : Hid (Abx v7 (w.heap.size) (.bool false) (.slice sa1 sz1.length sc1) (.slice da1 dz1.length dc1)) := B112.out.go hB
  have B123 : Hid (Abx v7 (w.heap.size + 1) (.bool false) (.slice sa2 sz2.length sc2) (.slice da2 dz2.length dc2)) := B113.out.go hB
  have B124 : Hid (Abx v7 (v5.heap.size) (.bool false) (.slice xa2 X.length xc2) (.slice ya2 Z.length yc2)) := B114.out.go hB
  have B125 : Hid (Abx v7 (v6.heap.size) (.bool false) (.slice xa3 X.length xc3) (.slice ya3 A.length yc3)) := B115.out.go hB
  have L126 : Hid (MidC (v4.heap.size) (v5.heap.size) v7 (xa2) (X) (xc2)) := L116.out.go (by omega) hB
  have L127 : Hid (MidC (v4.heap.size) (v5.heap.size) v7 (ya2) (Z) (yc2)) := L117.out.go (by omega) hB
  have L128 : Hid (MidC (wo89.heap.size) (v6.heap.size) v7 (xa3) (X) (xc3)) := L118.out.go (by omega) hB
  have L129 : Hid (MidC (wo89.heap.size) (v6.heap.size) v7 (ya3) (A) (yc3)) := L119.out.go (by omega) hB
  have hb130 : Hid (Below w.heap.size w v7) := hb120.out.trans (hB.mono hb120.out.size)
  have L131 : Hid (MidC (wo110.heap.size) (v7.heap.size) v7 (xa4) (X) (xc4)) := hX4.midc
  have L132 : Hid (MidC (wo110.heap.size) (v7.heap.size) v7 (ya4) (B) (yc4)) := hY4.midc
  clear hB hb120 B112 B113 B114 B115 L116 L117 L118 L119 hX4 hY4
  have n133 := Abx.new v7 (.bool false) (.slice xa4 X.length xc4) (.slice ya4 B.length yc4)
  have l134 := ((B125.out.al (.cells #[.bool false, .slice xa4 X.length xc4, .slice ya4 B.length yc4] 25))).c0
  have l135 := ((B125.out.al (.cells #[.bool false, .slice xa4 X.length xc4, .slice ya4 B.length yc4] 25))).c1
  have l136 := ((B125.out.al (.cells #[.bool false, .slice xa4 X.length xc4, .slice ya4 B.length yc4] 25))).c2
  have l137 := (n133).c0
  have l138 := (n133).c1
  have l139 := (n133).c2
  go_wp2_with fail
  obtain ⟨wo140, hwo140⟩ : ∃ wo140, wo140 = (v7.alloc (.cells #[.bool false, .slice xa4 X.length xc4, .slice ya4 B.length yc4] 25)) := ⟨_, rfl⟩
  rw [← hwo140]
  have z141 : v7.heap.size + 1 ≤ wo140.heap.size := by rw [hwo140]; simp only [World.size_alloc]; omega
  have B142 : Hid (Abx wo140 (w.heap.size) (.bool false) (.slice sa1 sz1.length sc1) (.slice da1 dz1.length dc1)) := by rw [hwo140]; exact (B122.out.al (.cells #[.bool false, .slice xa4 X.length xc4, .slice ya4 B.length yc4] 25))
  have B143 : Hid (Abx wo140 (w.heap.size + 1) (.bool false) (.slice sa2 sz2.length sc2) (.slice da2 dz2.length dc2)) := by rw [hwo140]; exact (B123.out.al (.cells #[.bool false, .slice xa4 X.length xc4, .slice ya4 B.length yc4] 25))
  have B144 : Hid (Abx wo140 (v5.heap.size) (.bool false) (.slice xa2 X.length xc2) (.slice ya2 Z.length yc2)) := by rw [hwo140]; exact (B124.out.al (.cells #[.bool false, .slice xa4 X.length xc4, .slice ya4 B.length yc4] 25))
  have B145 : Hid (Abx wo140 (v6.heap.size) (.bool false) (.slice xa3 X.length xc3) (.slice ya3 A.length yc3)) := by rw [hwo140]; exact (B125.out.al (.cells #[.bool false, .slice xa4 X.length xc4, .slice ya4 B.length yc4] 25))
  have B146 : Hid (Abx wo140 (v7.heap.size) (.bool false) (.slice xa4 X.length xc4) (.slice ya4 B.length yc4)) := by rw [hwo140]; exact n133
  have L147 : Hid (MidC (v4.heap.size) (v5.heap.size) wo140 (xa2) (X) (xc2)) := by rw [hwo140]; exact (L126.out.al (by omega) (.cells #[.bool false, .slice xa4 X.length xc4, .slice ya4 B.length yc4] 25))
  have L148 : Hid (MidC (v4.heap.size) (v5.heap.size) wo140 (ya2) (Z) (yc2)) := by rw [hwo140]; exact (L127.out.al (by omega) (.cells #[.bool false, .slice xa4 X.length xc4, .slice ya4 B.length yc4] 25))
  have L149 : Hid (MidC (wo89.heap.size) (v6.heap.size) wo140 (xa3) (X) (xc3)) := by rw [hwo140]; exact (L128.out.al (by omega) (.cells #[.bool false, .slice xa4 X.length xc4, .slice ya4 B.length yc4] 25))
  have L150 : Hid (MidC (wo89.heap.size) (v6.heap.size) wo140 (ya3) (A) (yc3)) := by rw [hwo140]; exact (L129.out.al (by omega) (.cells #[.bool false, .slice xa4 X.length xc4, .slice ya4 B.length yc4] 25))
  have L151 : Hid (MidC (wo110.heap.size) (v7.heap.size) wo140 (xa4) (X) (xc4)) := by rw [hwo140]; exact (L131.out.al (by omega) (.cells #[.bool false, .slice xa4 X.length xc4, .slice ya4 B.length yc4] 25))
  have L152 : Hid (MidC (wo110.heap.size) (v7.heap.size) wo140 (ya4) (B) (yc4)) := by rw [hwo140]; exact (L132.out.al (by omega) (.cells #[.bool false, .slice xa4 X.length xc4, .slice ya4 B.length yc4] 25))
  have hb153 : Hid (Below w.heap.size w wo140) := by rw [hwo140]; exact (hb130.out.alloc (by omega) (.cells #[.bool false, .slice xa4 X.length xc4, .slice ya4 B.length yc4] 25))
  have zwo140 : w.heap.size ≤ wo140.heap.size := hb153.out.size
  clear hwo140 n133 l134 l135 l136 l137 l138 l139 hb130 B122 B123 B124 B125 L126 L127 L128 L129 L131 L132
  refine (c2d_ok12 H2 f false xa3 xc3 X X.length rfl ya3 yc3 A A.length rfl false xa4 xc4 X ya4 yc4 B _ hf (by omega) (by omega) (by omega) (by omega) (L149.out.is (by omega)).1 (L150.out.is (by omega)).1 (L151.out.is (by omega)).1 (L152.out.is (by omega)).1 HTA.out.1 HTA.out.2 X Z HE2.out).mono ?_
  rintro e v8 ⟨xa5, xc5, ya5, yc5, rfl, hX5, hY5, hB⟩
  have z154 : wo140.heap.size ≤ v8.heap.size := hB.size
  have B155 : Hid (Abx v8 (w.heap.size) (.bool false) (.slice sa1 sz1.length sc1) (.slice da1 dz1.length dc1)) := B142.out.go hB
  have B156 : Hid (Abx v8 (w.heap.size + 1) (.bool false) (.slice sa2 sz2.length sc2) (.slice da2 dz2.length dc2)) := B143.out.go hB
  have B157 : Hid (Abx v8 (v5.heap.size) (.bool false) (.slice xa2 X.length xc2) (.slice ya2 Z.length yc2)) := B144.out.go hB
  have B158 : Hid (Abx v8 (v6.heap.size) (.bool false) (.slice xa3 X.length xc3) (.slice ya3 A.length yc3)) := B145.out.go hB
  have B159 : Hid (Abx v8 (v7.heap.size) (.bool false) (.slice xa4 X.length xc4) (.slice ya4 B.length yc4)) := B146.out.go hB
  have L160 : Hid (MidC (v4.heap.size) (v5.heap.size) v8 (xa2) (X) (xc2)) := L147.out.go (by omega) hB
  have L161 : Hid (MidC (v4.heap.size) (v5.heap.size) v8 (ya2) (Z) (yc2)) := L148.out.go (by omega) hB
  have L162 : Hid (MidC (wo89.heap.size) (v6.heap.size) v8 (xa3) (X) (xc3)) := L149.out.go (by omega) hB
  have L163 : Hid (MidC (wo89.heap.size) (v6.heap.size) v8 (ya3) (A) (yc3)) := L150.out.go (by omega) hB
  have L164 : Hid (MidC (wo110.heap.size) (v7.heap.size) v8 (xa4) (X) (xc4)) := L151.out.go (by omega) hB
  have L165 : Hid (MidC (wo110.heap.size) (v7.heap.size) v8 (ya4) (B) (yc4)) := L152.out.go (by omega) hB
  have hb166 : Hid (Below w.heap.size w v8) := hb153.out.trans (hB.mono hb153.out.size)
  have L167 : Hid (MidC (wo140.heap.size) (v8.heap.size) v8 (xa5) (X) (xc5)) := hX5.midc
  have L168 : Hid (MidC (wo140.heap.size) (v8.heap.size) v8 (ya5) (Z) (yc5)) := hY5.midc
  clear hB hb153 B142 B143 B144 B145 B146 L147 L148 L149 L150 L151 L152 hX5 hY5
  clear L162 L163 L164 L165 B158 B159
  have n169 := Abx.new v8 (.bool false) (.slice xa5 X.length xc5) (.slice ya5 Z.length yc5)
  have l170 := ((B157.out.al (.cells #[.bool false, .slice xa5 X.length xc5, .slice ya5 Z.length yc5] 25))).c0
  have l171 := ((B157.out.al (.cells #[.bool false, .slice xa5 X.length xc5, .slice ya5 Z.length yc5] 25))).c1
  have l172 := ((B157.out.al (.cells #[.bool false, .slice xa5 X.length xc5, .slice ya5 Z.length yc5] 25))).c2
  have l173 := (n169).c0
  have l174 := (n169).c1
  have l175 := (n169).c2
  go_wp2_with fail
  obtain ⟨wo176, hwo176⟩ : ∃ wo176, wo176 = (v8.alloc (.cells #[.bool false, .slice xa5 X.length xc5, .slice ya5 Z.length yc5] 25)) := ⟨_, rfl⟩
  rw [← hwo176]
  have z177 : v8.heap.size + 1 ≤ wo176.heap.size := by rw [hwo176]; simp only [World.size_alloc]; omega
  have B178 : Hid (Abx wo176 (w.heap.size) (.bool false) (.slice sa1 sz1.length sc1) (.slice da1 dz1.length dc1)) := by rw [hwo176]; exact (B155.out.al (.cells #[.bool false, .slice xa5 X.length xc5, .slice ya5 Z.length yc5] 25))
  have B179 : Hid (Abx wo176 (w.heap.size + 1) (.bool false) (.slice sa2 sz2.length sc2) (.slice da2 dz2.length dc2)) := by rw [hwo176]; exact (B156.out.al (.cells #[.bool false, .slice xa5 X.length xc5, .slice ya5 Z.length yc5] 25))
  have B180 : Hid (Abx wo176 (v5.heap.size) (.bool false) (.slice xa2 X.length xc2) (.slice ya2 Z.length yc2)) := by rw [hwo176]; exact (B157.out.al (.cells #[.bool false, .slice xa5 X.length xc5, .slice ya5 Z.length yc5] 25))
  have B181 : Hid (Abx wo176 (v8.heap.size) (.bool false) (.slice xa5 X.length xc5) (.slice ya5 Z.length yc5)) := by rw [hwo176]; exact n169
  have L182 : Hid (MidC (v4.heap.size) (v5.heap.size) wo176 (xa2) (X) (xc2)) := by rw [hwo176]; exact (L160.out.al (by omega) (.cells #[.bool false, .slice xa5 X.length xc5, .slice ya5 Z.length yc5] 25))
  have L183 : Hid (MidC (v4.heap.size) (v5.heap.size) wo176 (ya2) (Z) (yc2)) := by rw [hwo176]; exact (L161.out.al (by omega) (.cells #[.bool false, .slice xa5 X.length xc5, .slice ya5 Z.length yc5] 25))
  have L184 : Hid (MidC (wo140.heap.size) (v8.heap.size) wo176 (xa5) (X) (xc5)) := by rw [hwo176]; exact (L167.out.al (by omega) (.cells #[.bool false, .slice xa5 X.length xc5, .slice ya5 Z.length yc5] 25))
  have L185 : Hid (MidC (wo140.heap.size) (v8.heap.size) wo176 (ya5) (Z) (yc5)) := by rw [hwo176]; exact (L168.out.al (by omega) (.cells #[.bool false, .slice xa5 X.length xc5, .slice ya5 Z.length yc5] 25))
  have hb186 : Hid (Below w.heap.size w wo176) := by rw [hwo176]; exact (hb166.out.alloc (by omega) (.cells #[.bool false, .slice xa5 X.length xc5, .slice ya5 Z.length yc5] 25))
  have zwo176 : w.heap.size ≤ wo176.heap.size := hb186.out.size
  clear hwo176 n169 l170 l171 l172 l173 l174 l175 hb166 B155 B156 B157 L160 L161 L167 L168
  refine (alike_eq false xa2 xc2 X ya2 yc2 Z xa5 xc5 X ya5 yc5 Z rfl rfl (by omega) (by omega) _ (L182.out.is (by omega)) (L183.out.is (by omega)).1 (L184.out.is (by omega)) (L185.out.is (by omega)).1).mono ?_
  rintro e v9 ⟨rfl, hB⟩
  have z187 : wo176.heap.size ≤ v9.heap.size := hB.size
  have B188 : Hid (Abx v9 (w.heap.size) (.bool false) (.slice sa1 sz1.length sc1) (.slice da1 dz1.length dc1)) := B178.out.go hB
  have B189 : Hid (Abx v9 (w.heap.size + 1) (.bool false) (.slice sa2 sz2.length sc2) (.slice da2 dz2.length dc2)) := B179.out.go hB
  have B190 : Hid (Abx v9 (v5.heap.size) (.bool false) (.slice xa2 X.length xc2) (.slice ya2 Z.length yc2)) := B180.out.go hB
  have B191 : Hid (Abx v9 (v8.heap.size) (.bool false) (.slice xa5 X.length xc5) (.slice ya5 Z.length yc5)) := B181.out.go hB
  have L192 : Hid (MidC (v4.heap.size) (v5.heap.size) v9 (xa2) (X) (xc2)) := L182.out.go (by omega) hB
  have L193 : Hid (MidC (v4.heap.size) (v5.heap.size) v9 (ya2) (Z) (yc2)) := L183.out.go (by omega) hB
  have L194 : Hid (MidC (wo140.heap.size) (v8.heap.size) v9 (xa5) (X) (xc5)) := L184.out.go (by omega) hB
  have L195 : Hid (MidC (wo140.heap.size) (v8.heap.size) v9 (ya5) (Z) (yc5)) := L185.out.go (by omega) hB
  have hb196 : Hid (Below w.heap.size w v9) := hb186.out.trans (hB.mono hb186.out.size)
  clear hB hb186 B178 B179 B180 B181 L182 L183 L184 L185
  go_wp2_with fail
  go_ret
  exact ⟨rfl, hb196.out⟩
theorem fjoins_walk (HJn : CJn) (HRd : CRd) (H2 : C2d) (f x : Int) (hf : In64 f) (hx : In64 x) (c1 : Bool) (sa1 : Option Addr) (sc1 : Nat) (sz1 : List Int) (da1 : Option Addr) (dc1 : Nat) (dz1 : List Int) (c2 : Bool) (sa2 : Option Addr) (sc2 : Nat) (sz2 : List Int) (da2 : Option Addr) (dc2 : Nat) (dz2 : List Int) (w : World) (hg : HasErr w) (w8 : IsArrD w sa1 sz1 sc1 da1 dz1 dc1) (w9 : IsArrD w sa2 sz2 sc2 da2 dz2 dc2) :
    Calls Tryd.prog 3 #[.int .i64 f, .int .i64 x, .agg #[.bool c1, .slice sa1 sz1.length sc1, .slice da1 dz1.length dc1], .agg #[.bool c2, .slice sa2 sz2.length sc2, .slice da2 dz2.length dc2]] w fun e w' => e = .returned (.bool true) ∧ Below w.heap.size w w' := by
  by_cases h1 : jnE x c1 sz1 dz1 c2 sz2 dz2 = 0
  · by_cases hc : c1 = true
    · exact joins_char HJn HRd H2 f x hf hx c1 sa1 sc1 sz1 da1 dc1 dz1 c2 sa2 sc2 sz2 da2 dc2 dz2 w hg w8 w9 h1 hc
    · have hc' : c1 = false := by simpa using hc
      by_cases h2 : Mon f
      · by_cases h3 : errOf (xout x.toNat sz1) = 0
        · exact joins_ok HJn HRd H2 f x hf hx c1 sa1 sc1 sz1 da1 dc1 dz1 c2 sa2 sc2 sz2 da2 dc2 dz2 w hg w8 w9 h1 hc' h2 h3
        · exact joins_full HJn HRd H2 f x hf hx c1 sa1 sc1 sz1 da1 dc1 dz1 c2 sa2 sc2 sz2 da2 dc2 dz2 w hg w8 w9 h1 hc' h2 h3
      · exact joins_other HJn HRd H2 f x hf hx c1 sa1 sc1 sz1 da1 dc1 dz1 c2 sa2 sc2 sz2 da2 dc2 dz2 w hg w8 w9 h1 hc' h2
  · exact joins_no HJn HRd H2 f x hf hx c1 sa1 sc1 sz1 da1 dc1 dz1 c2 sa2 sc2 sz2 da2 dc2 dz2 w hg w8 w9 h1
end Go.Proofs.YtmbgomljofngnacDoor
