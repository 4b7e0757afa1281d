/-
  The walk of the statement GradeSorts, given what the program tells.
-/
import Derived.Test.YteddkfeiikdekaaDoorGrdk
namespace Go.Proofs.YteddkfeiikdekaaDoor
open Go.RowKit
set_option linter.unusedVariables false

set_option maxRecDepth 100000 in
set_option maxHeartbeats 8000000 in
theorem sorts_no (HS : CSo) (c1 : Bool) (sa1 : Option Addr) (sc1 : Nat) (sz1 : List Int) (da1 : Option Addr) (dc1 : Nat) (dz1 : List Int) (w : World) (hg : HasErr w) (w8 : IsArrD w sa1 sz1 sc1 da1 dz1 dc1) (F1 : Hid (gdE c1 sz1 dz1 ≠ 0)) :
    Calls Tryd.prog 4 #[.agg #[.bool c1, .slice sa1 sz1.length sc1, .slice da1 dz1.length dc1]] w fun e w' => e = .returned (.bool true) ∧ Below w.heap.size w w' := by
  obtain ⟨x11, x12, x3, x4, s64, T⟩ := w8
  have HI1 : Hid (IsC w.heap.size w sa1 sz1 sc1 ∧ IsC w.heap.size w da1 dz1 dc1 ∧ (∀ j, In64 (nth sz1 j)) ∧ ∀ j, In64 (nth dz1 j)) := ⟨x3, x4, s64, T⟩
  clear x3 x4 T s64
  have HG : Hid (HasErr w) := hg
  clear hg
  obtain ⟨E, hE⟩ : ∃ E, gdE c1 sz1 dz1 = E := ⟨_, rfl⟩
  have HE : Hid (E ≠ 0) := by rw [← hE]; exact F1.out
  have hb : (E == 0) = false := by rw [beq_eq_false_iff_ne]; exact HE.out
  have HL : Hid (gdE c1 sz1 dz1 = E ∧ onL (gdE c1 sz1 dz1) (gdO false sz1 dz1) = []) := ⟨hE, onL_no F1.out⟩
  clear hE
  have n1 := Abx.new w (.bool c1) (.slice sa1 sz1.length sc1) (.slice da1 dz1.length dc1)
  have l2 := (n1).c0
  have l3 := (n1).c1
  have l4 := (n1).c2
  go_enter Tryd.func4, Tryd.ntmps4
  go_wp2_with fail
  obtain ⟨wo5, hwo5⟩ : ∃ wo5, wo5 = (w.alloc (.cells #[.bool c1, .slice sa1 sz1.length sc1, .slice da1 dz1.length dc1] 24)) := ⟨_, rfl⟩
  rw [← hwo5]
  have z6 : w.heap.size + 1 ≤ wo5.heap.size := by rw [hwo5]; simp only [World.size_alloc]; omega
  have B7 : Hid (Abx wo5 (w.heap.size) (.bool c1) (.slice sa1 sz1.length sc1) (.slice da1 dz1.length dc1)) := by rw [hwo5]; exact n1
  have hb8 : Hid (Below w.heap.size w wo5) := by rw [hwo5]; exact ((Below.refl w.heap.size w).alloc (by omega) (.cells #[.bool c1, .slice sa1 sz1.length sc1, .slice da1 dz1.length dc1] 24))
  have zwo5 : w.heap.size ≤ wo5.heap.size := hb8.out.size
  clear hwo5 n1 l2 l3 l4
  refine (grg false c1 sa1 sc1 sz1 da1 dc1 dz1 _ x11 x12 ((HI1.out.1.below hb8.out).mono hb8.out.size) ((HI1.out.2.1.below hb8.out).mono hb8.out.size) E [] HL.out).mono ?_
  rintro e v1 ⟨g1, h1, rfl, hN1, hB⟩
  have z9 : wo5.heap.size ≤ v1.heap.size := hB.size
  have B10 : Hid (Abx v1 (w.heap.size) (.bool c1) (.slice sa1 sz1.length sc1) (.slice da1 dz1.length dc1)) := B7.out.go hB
  have hb11 : Hid (Below w.heap.size w v1) := hb8.out.trans (hB.mono hb8.out.size)
  have L12 : Hid (MidC (wo5.heap.size) (v1.heap.size) v1 (g1) ([]) (h1)) := hN1.midc
  clear hB hb8 B7 hN1
  have n13 := Abx.new v1 (.bool false) (.slice none 0 0) (.slice none 0 0)
  have l14 := ((B10.out.al (.cells #[.bool false, .slice none 0 0, .slice none 0 0] 24))).c0
  have l15 := ((B10.out.al (.cells #[.bool false, .slice none 0 0, .slice none 0 0] 24))).c1
  have l16 := ((B10.out.al (.cells #[.bool false, .slice none 0 0, .slice none 0 0] 24))).c2
  go_wp2_with fail
  obtain ⟨wo17, hwo17⟩ : ∃ wo17, wo17 = (v1.alloc (.cells #[.bool false, .slice none 0 0, .slice none 0 0] 24)) := ⟨_, rfl⟩
  rw [← hwo17]
  have z18 : v1.heap.size + 1 ≤ wo17.heap.size := by rw [hwo17]; simp only [World.size_alloc]; omega
  have B19 : Hid (Abx wo17 (w.heap.size) (.bool c1) (.slice sa1 sz1.length sc1) (.slice da1 dz1.length dc1)) := by rw [hwo17]; exact (B10.out.al (.cells #[.bool false, .slice none 0 0, .slice none 0 0] 24))
  have B20 : Hid (Abx wo17 (v1.heap.size) (.bool false) (.slice none 0 0) (.slice none 0 0)) := by rw [hwo17]; exact n13
  have L21 : Hid (MidC (wo5.heap.size) (v1.heap.size) wo17 (g1) ([]) (h1)) := by rw [hwo17]; exact (L12.out.al (by omega) (.cells #[.bool false, .slice none 0 0, .slice none 0 0] 24))
  have hb22 : Hid (Below w.heap.size w wo17) := by rw [hwo17]; exact (hb11.out.alloc (by omega) (.cells #[.bool false, .slice none 0 0, .slice none 0 0] 24))
  have zwo17 : w.heap.size ≤ wo17.heap.size := hb22.out.size
  clear hwo17 n13 l14 l15 l16 hb11 B10 L12
  clear L21
  refine (sow_noE c1 sa1 sc1 sz1 sz1.length rfl da1 dc1 dz1 dz1.length rfl _ x11 x12 ((HI1.out.1.below hb22.out).mono hb22.out.size) ((HI1.out.2.1.below hb22.out).mono hb22.out.size) HS E HL.out.1 HE.out).mono ?_
  rintro e v2 ⟨xa2, xc2, ya2, yc2, rfl, hB⟩
  have z23 : wo17.heap.size ≤ v2.heap.size := hB.size
  have B24 : Hid (Abx v2 (w.heap.size) (.bool c1) (.slice sa1 sz1.length sc1) (.slice da1 dz1.length dc1)) := B19.out.go hB
  have B25 : Hid (Abx v2 (v1.heap.size) (.bool false) (.slice none 0 0) (.slice none 0 0)) := B20.out.go hB
  have hb26 : Hid (Below w.heap.size w v2) := hb22.out.trans (hB.mono hb22.out.size)
  clear hB hb22 B19 B20
  have n27 := Abx.new v2 (.bool false) (.slice xa2 0 xc2) (.slice ya2 0 yc2)
  have l28 := (n27).c0
  have l29 := (n27).c1
  have l30 := (n27).c2
  have l31 := ((B25.out.al (.cells #[.bool false, .slice xa2 0 xc2, .slice ya2 0 yc2] 24))).c0
  have l32 := ((B25.out.al (.cells #[.bool false, .slice xa2 0 xc2, .slice ya2 0 yc2] 24))).c1
  have l33 := ((B25.out.al (.cells #[.bool false, .slice xa2 0 xc2, .slice ya2 0 yc2] 24))).c2
  go_wp2_with fail
  obtain ⟨wo34, hwo34⟩ : ∃ wo34, wo34 = (v2.alloc (.cells #[.bool false, .slice xa2 0 xc2, .slice ya2 0 yc2] 24)) := ⟨_, rfl⟩
  rw [← hwo34]
  have z35 : v2.heap.size + 1 ≤ wo34.heap.size := by rw [hwo34]; simp only [World.size_alloc]; omega
  have B36 : Hid (Abx wo34 (w.heap.size) (.bool c1) (.slice sa1 sz1.length sc1) (.slice da1 dz1.length dc1)) := by rw [hwo34]; exact (B24.out.al (.cells #[.bool false, .slice xa2 0 xc2, .slice ya2 0 yc2] 24))
  have B37 : Hid (Abx wo34 (v1.heap.size) (.bool false) (.slice none 0 0) (.slice none 0 0)) := by rw [hwo34]; exact (B25.out.al (.cells #[.bool false, .slice xa2 0 xc2, .slice ya2 0 yc2] 24))
  have B38 : Hid (Abx wo34 (v2.heap.size) (.bool false) (.slice xa2 0 xc2) (.slice ya2 0 yc2)) := by rw [hwo34]; exact n27
  have hb39 : Hid (Below w.heap.size w wo34) := by rw [hwo34]; exact (hb26.out.alloc (by omega) (.cells #[.bool false, .slice xa2 0 xc2, .slice ya2 0 yc2] 24))
  have zwo34 : w.heap.size ≤ wo34.heap.size := hb39.out.size
  clear hwo34 n27 l28 l29 l30 l31 l32 l33 hb26 B24 B25
  refine (is_no10 E HE.out xa2 xc2 ya2 yc2 _ (HG.out.below hb39.out HG.out.pos)).mono ?_
  rintro e v3 ⟨rfl, hB⟩
  have z40 : wo34.heap.size ≤ v3.heap.size := hB.size
  have B41 : Hid (Abx v3 (w.heap.size) (.bool c1) (.slice sa1 sz1.length sc1) (.slice da1 dz1.length dc1)) := B36.out.go hB
  have B42 : Hid (Abx v3 (v1.heap.size) (.bool false) (.slice none 0 0) (.slice none 0 0)) := B37.out.go hB
  have B43 : Hid (Abx v3 (v2.heap.size) (.bool false) (.slice xa2 0 xc2) (.slice ya2 0 yc2)) := B38.out.go hB
  have hb44 : Hid (Below w.heap.size w v3) := hb39.out.trans (hB.mono hb39.out.size)
  clear hB hb39 B36 B37 B38
  go_wp2_with fail
  go_ret
  exact ⟨rfl, hb44.out⟩
set_option maxRecDepth 100000 in
set_option maxHeartbeats 8000000 in
theorem sorts_ok (HS : CSo) (c1 : Bool) (sa1 : Option Addr) (sc1 : Nat) (sz1 : List Int) (da1 : Option Addr) (dc1 : Nat) (dz1 : List Int) (w : World) (hg : HasErr w) (w8 : IsArrD w sa1 sz1 sc1 da1 dz1 dc1) (F1 : Hid (gdE c1 sz1 dz1 = 0)) :
    Calls Tryd.prog 4 #[.agg #[.bool c1, .slice sa1 sz1.length sc1, .slice da1 dz1.length dc1]] w fun e w' => e = .returned (.bool true) ∧ Below w.heap.size w w' := by
  obtain ⟨x11, x12, x3, x4, s64, T⟩ := w8
  have HI1 : Hid (IsC w.heap.size w sa1 sz1 sc1 ∧ IsC w.heap.size w da1 dz1 dc1 ∧ (∀ j, In64 (nth sz1 j)) ∧ ∀ j, In64 (nth dz1 j)) := ⟨x3, x4, s64, T⟩
  clear x3 x4 T s64
  have HG : Hid (HasErr w) := hg
  clear hg
  obtain ⟨O, hO⟩ : ∃ O, O = gdO false sz1 dz1 := ⟨_, rfl⟩
  obtain ⟨n, hn⟩ : ∃ n, nR sz1 = n := ⟨_, rfl⟩
  obtain ⟨lo, hlo⟩ : ∃ lo, lR sz1 dz1 = lo := ⟨_, rfl⟩
  have hn4 : n ≤ 4096 := by rw [← hn]; exact (nR_is F1.out).2
  have hd4 : dz1.length ≤ 4096 := (flawE_short (gdE_zero.1 F1.out).1).2
  have hs6 : sz1.length ≤ 6 := (flawE_short (gdE_zero.1 F1.out).1).1
  have HOL : Hid (O.length = n ∧ IsOrd O ∧ n * lo ≤ dz1.length) := ⟨by rw [hO, gdO_length]; exact hn, by rw [hO]; exact gdO_ord false sz1 dz1, by rw [← hn, ← hlo]; exact lR_le sz1 dz1⟩
  have HO : Hid (gdE c1 sz1 dz1 = 0 ∧ onL (gdE c1 sz1 dz1) (gdO false sz1 dz1) = O) := ⟨F1.out, by rw [onL_ok F1.out, hO]⟩
  have HNL : Hid (nR sz1 = n ∧ lR sz1 dz1 = lo) := ⟨hn, hlo⟩
  have HGD : Hid (srD dz1 lo O = gdD sz1 dz1) := by show _ = _; unfold gdD; rw [hO, hlo]
  have hol1 : O.length ≤ n := by have := HOL.out.1; omega
  have hol2 : n ≤ O.length := by have := HOL.out.1; omega
  clear hO hn hlo
  have n1 := Abx.new w (.bool c1) (.slice sa1 sz1.length sc1) (.slice da1 dz1.length dc1)
  have l2 := (n1).c0
  have l3 := (n1).c1
  have l4 := (n1).c2
  go_enter Tryd.func4, Tryd.ntmps4
  go_wp2_with fail
  obtain ⟨wo5, hwo5⟩ : ∃ wo5, wo5 = (w.alloc (.cells #[.bool c1, .slice sa1 sz1.length sc1, .slice da1 dz1.length dc1] 24)) := ⟨_, rfl⟩
  rw [← hwo5]
  have z6 : w.heap.size + 1 ≤ wo5.heap.size := by rw [hwo5]; simp only [World.size_alloc]; omega
  have B7 : Hid (Abx wo5 (w.heap.size) (.bool c1) (.slice sa1 sz1.length sc1) (.slice da1 dz1.length dc1)) := by rw [hwo5]; exact n1
  have hb8 : Hid (Below w.heap.size w wo5) := by rw [hwo5]; exact ((Below.refl w.heap.size w).alloc (by omega) (.cells #[.bool c1, .slice sa1 sz1.length sc1, .slice da1 dz1.length dc1] 24))
  have zwo5 : w.heap.size ≤ wo5.heap.size := hb8.out.size
  clear hwo5 n1 l2 l3 l4
  refine (grg false c1 sa1 sc1 sz1 da1 dc1 dz1 _ x11 x12 ((HI1.out.1.below hb8.out).mono hb8.out.size) ((HI1.out.2.1.below hb8.out).mono hb8.out.size) 0 O HO.out).mono ?_
  rintro e v1 ⟨g1, h1, rfl, hN1, hB⟩
  have z9 : wo5.heap.size ≤ v1.heap.size := hB.size
  have B10 : Hid (Abx v1 (w.heap.size) (.bool c1) (.slice sa1 sz1.length sc1) (.slice da1 dz1.length dc1)) := B7.out.go hB
  have hb11 : Hid (Below w.heap.size w v1) := hb8.out.trans (hB.mono hb8.out.size)
  have L12 : Hid (MidC (wo5.heap.size) (v1.heap.size) v1 (g1) (O) (h1)) := hN1.midc
  clear hB hb8 B7 hN1
  have lq0 := (B10.out.al (.cells #[.bool false, .slice none 0 0, .slice none 0 0] 24)).c0
  have l13 := (B10.out).c0
  have l14 := (B10.out).c1
  have l15 := (B10.out).c2
  have n16 := Abx.new v1 (.bool c1) (.slice none 0 0) (.slice none 0 0)
  have l17 := ((B10.out.al (.cells #[.bool c1, .slice none 0 0, .slice none 0 0] 24))).c0
  have l18 := ((B10.out.al (.cells #[.bool c1, .slice none 0 0, .slice none 0 0] 24))).c1
  have l19 := ((B10.out.al (.cells #[.bool c1, .slice none 0 0, .slice none 0 0] 24))).c2
  go_wp2_with fail
  obtain ⟨wo20, hwo20⟩ : ∃ wo20, wo20 = (v1.alloc (.cells #[.bool c1, .slice none 0 0, .slice none 0 0] 24)) := ⟨_, rfl⟩
  rw [← hwo20]
  have z21 : v1.heap.size + 1 ≤ wo20.heap.size := by rw [hwo20]; simp only [World.size_alloc]; omega
  have B22 : Hid (Abx wo20 (w.heap.size) (.bool c1) (.slice sa1 sz1.length sc1) (.slice da1 dz1.length dc1)) := by rw [hwo20]; exact (B10.out.al (.cells #[.bool c1, .slice none 0 0, .slice none 0 0] 24))
  have B23 : Hid (Abx wo20 (v1.heap.size) (.bool c1) (.slice none 0 0) (.slice none 0 0)) := by rw [hwo20]; exact n16
  have L24 : Hid (MidC (wo5.heap.size) (v1.heap.size) wo20 (g1) (O) (h1)) := by rw [hwo20]; exact (L12.out.al (by omega) (.cells #[.bool c1, .slice none 0 0, .slice none 0 0] 24))
  have hb25 : Hid (Below w.heap.size w wo20) := by rw [hwo20]; exact (hb11.out.alloc (by omega) (.cells #[.bool c1, .slice none 0 0, .slice none 0 0] 24))
  have zwo20 : w.heap.size ≤ wo20.heap.size := hb25.out.size
  clear hwo20 lq0 l13 l14 l15 n16 l17 l18 l19 hb11 B10 L12
  refine (copy_c sa1 sc1 sz1 (by omega) _ ((HI1.out.1.1.below hb25.out).mono hb25.out.size)).mono ?_
  rintro e v2 ⟨g5, h5, rfl, hN5, hB⟩
  have z26 : wo20.heap.size ≤ v2.heap.size := hB.size
  have B27 : Hid (Abx v2 (w.heap.size) (.bool c1) (.slice sa1 sz1.length sc1) (.slice da1 dz1.length dc1)) := B22.out.go hB
  have B28 : Hid (Abx v2 (v1.heap.size) (.bool c1) (.slice none 0 0) (.slice none 0 0)) := B23.out.go hB
  have L29 : Hid (MidC (wo5.heap.size) (v1.heap.size) v2 (g1) (O) (h1)) := L24.out.go (by omega) hB
  have hb30 : Hid (Below w.heap.size w v2) := hb25.out.trans (hB.mono hb25.out.size)
  have L31 : Hid (MidC (wo20.heap.size) (v2.heap.size) v2 (g5) (sz1) (h5)) := hN5.midc
  clear hB hb25 B22 B23 L24 hN5
  have l32 := (B28.out).fr 1
  have l33 := (B28.out).c1
  have l34 := ((B27.out.ot (a := ⟨v1.heap.size, 1, none⟩) (by show w.heap.size ≠ v1.heap.size; omega) (.slice g5 sz1.length h5))).c0
  have l35 := ((B27.out.ot (a := ⟨v1.heap.size, 1, none⟩) (by show w.heap.size ≠ v1.heap.size; omega) (.slice g5 sz1.length h5))).c1
  have l36 := ((B27.out.ot (a := ⟨v1.heap.size, 1, none⟩) (by show w.heap.size ≠ v1.heap.size; omega) (.slice g5 sz1.length h5))).c2
  go_wp2_with fail
  obtain ⟨wo37, hwo37⟩ : ∃ wo37, wo37 = (v2.setCell ⟨v1.heap.size, 1, none⟩ (.slice g5 sz1.length h5)) := ⟨_, rfl⟩
  rw [← hwo37]
  have z38 : v2.heap.size ≤ wo37.heap.size := by rw [hwo37]; simp only [World.size_setCell]; omega
  have B39 : Hid (Abx wo37 (w.heap.size) (.bool c1) (.slice sa1 sz1.length sc1) (.slice da1 dz1.length dc1)) := by rw [hwo37]; exact (B27.out.ot (a := ⟨v1.heap.size, 1, none⟩) (by show w.heap.size ≠ v1.heap.size; omega) (.slice g5 sz1.length h5))
  have B40 : Hid (Abx wo37 (v1.heap.size) (.bool c1) (.slice g5 sz1.length h5) (.slice none 0 0)) := by rw [hwo37]; exact (B28.out.s1 (.slice g5 sz1.length h5))
  have L41 : Hid (MidC (wo5.heap.size) (v1.heap.size) wo37 (g1) (O) (h1)) := by rw [hwo37]; exact (L29.out.s1 (p := ⟨v1.heap.size, 1, none⟩) (by show v1.heap.size < wo5.heap.size ∨ v1.heap.size ≤ v1.heap.size; omega) (.slice g5 sz1.length h5))
  have L42 : Hid (MidC (wo20.heap.size) (v2.heap.size) wo37 (g5) (sz1) (h5)) := by rw [hwo37]; exact (L31.out.s1 (p := ⟨v1.heap.size, 1, none⟩) (by show v1.heap.size < wo20.heap.size ∨ v2.heap.size ≤ v1.heap.size; omega) (.slice g5 sz1.length h5))
  have hb43 : Hid (Below w.heap.size w wo37) := by rw [hwo37]; exact (hb30.out.setCell (p := ⟨v1.heap.size, 1, none⟩) (by show w.heap.size ≤ v1.heap.size; omega) (.slice g5 sz1.length h5))
  have zwo37 : w.heap.size ≤ wo37.heap.size := hb43.out.size
  clear hwo37 l32 l33 l34 l35 l36 hb30 B27 B28 L29 L31
  refine (rowsr_any c1 sa1 sc1 sz1 da1 dc1 dz1 F1.out n lo HNL.out.1 HNL.out.2 _ ((HI1.out.1.1.below hb43.out).mono hb43.out.size)).mono ?_
  rintro e v3 ⟨rfl, hB⟩
  have z44 : wo37.heap.size ≤ v3.heap.size := hB.size
  have B45 : Hid (Abx v3 (w.heap.size) (.bool c1) (.slice sa1 sz1.length sc1) (.slice da1 dz1.length dc1)) := B39.out.go hB
  have B46 : Hid (Abx v3 (v1.heap.size) (.bool c1) (.slice g5 sz1.length h5) (.slice none 0 0)) := B40.out.go hB
  have L47 : Hid (MidC (wo5.heap.size) (v1.heap.size) v3 (g1) (O) (h1)) := L41.out.go (by omega) hB
  have L48 : Hid (MidC (wo20.heap.size) (v2.heap.size) v3 (g5) (sz1) (h5)) := L42.out.go (by omega) hB
  have hb49 : Hid (Below w.heap.size w v3) := hb43.out.trans (hB.mono hb43.out.size)
  clear hB hb43 B39 B40 L41 L42
  go_wp2_with fail
  obtain ⟨B, hBe⟩ : ∃ B, B = v1.heap.size := ⟨_, rfl⟩
  rw [← hBe]
  have HWT : Hid (Abx v3 B (.bool c1) (.slice g5 sz1.length h5) (.slice none 0 0)) := by rw [hBe]; exact B46.out
  have hB1 : w.heap.size < B := by omega
  have hB2 : B < v3.heap.size := HWT.out.lt
  have HM1 : Hid (MidC w.heap.size B v3 g1 O h1) := L47.out.wider10 (by omega) (by omega)
  have HM5 : Hid (MidC (B + 1) v3.heap.size v3 g5 sz1 h5) := L48.out.wider10 (by omega) (by omega)
  clear hBe B46 L47 L48
  go_loopw [8] (fun i wr => ∃ (k : Nat) (dv : Value), k ≤ n ∧ i = .int .i64 k ∧ Abx wr w.heap.size (.bool c1) (.slice sa1 sz1.length sc1) (.slice da1 dz1.length dc1) ∧ Abx wr B (.bool c1) (.slice g5 sz1.length h5) dv ∧ wr.ownsRow v3.heap.size 3 1 dv (k * lo) ((srD dz1 lo (O.take k)).map (Value.int .i64)) ∧ MidC w.heap.size B wr g1 O h1 ∧ MidC (B + 1) v3.heap.size wr g5 sz1 h5 ∧ v3.heap.size ≤ wr.heap.size ∧ Below w.heap.size w wr) (fun i _ => n - (intOf i).toNat)
  case atStart => exact ⟨0, .slice none 0 0, Nat.zero_le _, rfl, B45.out, HWT.out, by rw [Nat.zero_mul]; exact World.ownsRow_nil _ _ _ _, HM1.out, HM5.out, Nat.le_refl _, hb49.out⟩
  case round =>
    obtain ⟨k, dv, hk, rfl, hA, hWt, hown, hM1, hM5, hzw, hBw⟩ := hrel
    obtain ⟨M, hM⟩ : ∃ M, M = k * lo := ⟨_, rfl⟩
    have hlen : (srD dz1 lo (O.take k)).length = M := by rw [hM]; exact srD_take_len HOL.out.2.2 HOL.out.2.1 HOL.out.1 hk
    obtain ⟨g7, c7, rfl, hN7⟩ := own_cap hown
    rw [hlen] at hown hWt
    rw [← hM] at hown
    have HW : Hid (wr.ownsRow v3.heap.size 3 1 (.slice g7 M c7) M ((srD dz1 lo (O.take k)).map (Value.int .i64))) := hown
    have HN7 : Hid (NewC v3.heap.size wr g7 (srD dz1 lo (O.take k)) c7) := hN7
    have HM : Hid (M = k * lo ∧ (srD dz1 lo (O.take k)).length = M) := ⟨hM, hlen⟩
    have HA : Hid (Abx wr w.heap.size (.bool c1) (.slice sa1 sz1.length sc1) (.slice da1 dz1.length dc1)) := hA
    have HWt : Hid (Abx wr B (.bool c1) (.slice g5 sz1.length h5) (.slice g7 M c7)) := hWt
    have HMM : Hid (MidC w.heap.size B wr g1 O h1 ∧ MidC (B + 1) v3.heap.size wr g5 sz1 h5) := ⟨hM1, hM5⟩
    have HBw : Hid (Below w.heap.size w wr) := hBw
    clear hown hN7 hM hlen hA hWt hM5 hBw
    by_cases hkn : k < n
    · have hIO : IsInts wr.heap.size wr g1 O := (hM1.is (by omega)).1
      obtain ⟨bo, oo, rfl, hbo, hcO⟩ := hIO.at (q := k) (by omega)
      have ck := hcO k (by omega)
      have ho := ord_at HOL.out.2.1 (i := k) (by omega)
      obtain ⟨X, hX⟩ : ∃ X, X = (nth O k).toNat := ⟨_, rfl⟩
      have hXn : X < n := by omega
      rw [show nth O k = (X : Int) by omega] at ck
      have HX : Hid (X = (nth O k).toNat) := hX
      have hdw : IsC w.heap.size wr da1 dz1 dc1 := HI1.out.2.1.below HBw.out
      have hdc : dz1.length ≤ dc1 := HI1.out.2.1.2
      have hlx := rwL_length HOL.out.2.2 hXn
      have hly := rwL_length HOL.out.2.2 hXn
      obtain ⟨K0, hK0⟩ : ∃ K0, K0 = X * lo := ⟨_, rfl⟩
      obtain ⟨J0, hJ0⟩ : ∃ J0, J0 = X * lo := ⟨_, rfl⟩
      have b1 : K0 + lo ≤ dz1.length := by have h6 := Nat.mul_le_mul_right lo (show X + 1 ≤ n by omega); rw [Nat.add_mul, Nat.one_mul, ← hK0] at h6; have := HOL.out.2.2; omega
      have b2 : J0 + lo ≤ dz1.length := by have h6 := Nat.mul_le_mul_right lo (show X + 1 ≤ n by omega); rw [Nat.add_mul, Nat.one_mul, ← hJ0] at h6; have := HOL.out.2.2; omega
      obtain ⟨AX, hAX⟩ : ∃ AX : Option Addr, (if dc1 = K0 then da1 else Option.map (fun x => x.add K0) da1) = AX := ⟨_, rfl⟩
      obtain ⟨AY, hAY⟩ : ∃ AY : Option Addr, (if dc1 = J0 then da1 else Option.map (fun x => x.add J0) da1) = AY := ⟨_, rfl⟩
      have HIX : Hid (IsInts w.heap.size wr AX (rwL dz1 lo X) ∧ IsInts w.heap.size wr AY (rwL dz1 lo X)) := ⟨row_cut hdw HOL.out.2.2 hXn (by rw [← hK0]; exact hAX), row_cut hdw HOL.out.2.2 hXn (by rw [← hJ0]; exact hAY)⟩
      obtain ⟨K1, hK1⟩ : ∃ K1, K1 = K0 + lo := ⟨_, rfl⟩
      obtain ⟨J1, hJ1⟩ : ∃ J1, J1 = J0 + lo := ⟨_, rfl⟩
      have w1 : IntKind.i64.wrap ((X : Int) * (lo : Int)) = (K0 : Int) := by rw [show (X : Int) * (lo : Int) = (K0 : Int) by rw [hK0]; exact (Int.natCast_mul _ _).symm]; exact IntWalk.i64_in _ (by omega)
      have w2 : IntKind.i64.wrap ((X : Int) * (lo : Int)) = (J0 : Int) := by rw [show (X : Int) * (lo : Int) = (J0 : Int) by rw [hJ0]; exact (Int.natCast_mul _ _).symm]; exact IntWalk.i64_in _ (by omega)
      have w3 : IntKind.i64.wrap ((K0 : Int) + (lo : Int)) = (K1 : Int) := by rw [wr_sm (by omega)]; omega
      have w4 : IntKind.i64.wrap ((J0 : Int) + (lo : Int)) = (J1 : Int) := by rw [wr_sm (by omega)]; omega
      have s1 : K1 - K0 = lo := by omega
      have s2 : J1 - J0 = lo := by omega
      have s3 : K0 ≤ K1 := by omega
      have s4 : J0 ≤ J1 := by omega
      have s5 : K1 ≤ dc1 := by omega
      have s6 : J1 ≤ dc1 := by omega
      have hlo4 : lo ≤ 4096 := by omega
      have HLL : Hid ((rwL dz1 lo X).length = lo ∧ (rwL dz1 lo X).length = lo) := ⟨hlx, hly⟩
      clear hlx hly hK0 hJ0 hK1 hJ1
      have hll4 : M + lo ≤ 4096 := by have h6 := Nat.mul_le_mul_right lo (show k + 1 ≤ n by omega); have h7 := HM.out.1; have h8 := HOL.out.2.2; rw [Nat.add_mul, Nat.one_mul] at h6; omega
      have p2 := HA.out.c2
      have t2 := HWt.out.c2
      have t2f := HWt.out.fr 2
      obtain ⟨D, hD⟩ : ∃ D, D = dz1.length := ⟨_, rfl⟩
      rw [← hD] at p2
      have HIr : Hid (IsInts wr.heap.size wr AX (rwL dz1 lo X)) := HIX.out.1.mono HBw.out.size
      clear hcO ho hX hdw hIO hD hM1
      go_wp2_with fail
      refine anyT_begin 20 (fun w' => w'.cell? ⟨w.heap.size, 2, none⟩ = some (.slice da1 D dc1) ∧ w'.cell? ⟨B, 2, none⟩ = some (.slice g7 M c7) ∧ w'.cell? ⟨bo, oo + k, none⟩ = some (.int .i64 (X : Nat))) 22 #[false, false, false, false, false, false, false, false, false, false, false, false, false, false, false, false, false, false, false, false, false, false] (by kernel_rfl) rfl rfl ?_
      refine anyT_put 0 36 ?rv0 #[true, false, false, false, false, false, false, false, false, false, false, false, false, false, false, false, false, false, false, false, false, false] rfl rfl rfl (by kernel_rfl) (by kernel_rfl) (by kernel_rfl) (fun _ _ _ h => h) (by decide) ?ry0 (fun _ => ⟨p2, t2, ck⟩) ?rm0
      case ry0 => first | exact Or.inl ⟨by rfl, by intro w'; go_simp; first | done | rfl⟩
      case rm0 =>
      simp only [Act.put, List.setIfInBounds_toArray, List.set_cons_zero, List.set_cons_succ]
      refine anyT_take 1 37 ?rv1 #[true, true, false, false, false, false, false, false, false, false, false, false, false, false, false, false, false, false, false, false, false, false] rfl rfl rfl (by kernel_rfl) (by kernel_rfl) (by kernel_rfl) (fun _ _ _ h => h) (by kernel_rfl) (by decide) (by kernel_rfl) ?ry1 (⟨p2, t2, ck⟩) ?rm1
      case ry1 => first | exact Or.inl ⟨by rfl, by intro w' hw'; (try dsimp only at hw'); go_simp; first | done | rfl⟩
      case rm1 =>
      simp only [Act.put, List.setIfInBounds_toArray, List.set_cons_zero, List.set_cons_succ]
      refine anyT_put 2 38 ?rv2 #[true, true, true, false, false, false, false, false, false, false, false, false, false, false, false, false, false, false, false, false, false, false] rfl rfl rfl (by kernel_rfl) (by kernel_rfl) (by kernel_rfl) (fun _ _ _ h => h) (by decide) ?ry2 (fun _ => ⟨p2, t2, ck⟩) ?rm2
      case ry2 => first | exact Or.inl ⟨by rfl, by intro w'; go_simp; first | done | rfl⟩
      case rm2 =>
      simp only [Act.put, List.setIfInBounds_toArray, List.set_cons_zero, List.set_cons_succ]
      refine anyT_take 3 39 ?rv3 #[true, true, true, true, false, false, false, false, false, false, false, false, false, false, false, false, false, false, false, false, false, false] rfl rfl rfl (by kernel_rfl) (by kernel_rfl) (by kernel_rfl) (fun _ _ _ h => h) (by kernel_rfl) (by decide) (by kernel_rfl) ?ry3 (⟨p2, t2, ck⟩) ?rm3
      case ry3 => first | exact Or.inl ⟨by rfl, by intro w' hw'; (try dsimp only at hw'); go_simp; first | done | rfl⟩
      case rm3 =>
      simp only [Act.put, List.setIfInBounds_toArray, List.set_cons_zero, List.set_cons_succ]
      refine anyT_put 4 40 ?rv4 #[true, true, true, true, true, false, false, false, false, false, false, false, false, false, false, false, false, false, false, false, false, false] rfl rfl rfl (by kernel_rfl) (by kernel_rfl) (by kernel_rfl) (fun _ _ _ h => h) (by decide) ?ry4 (fun _ => ⟨p2, t2, ck⟩) ?rm4
      case ry4 => first | exact Or.inl ⟨by rfl, by intro w'; go_simp; first | done | rfl⟩
      case rm4 =>
      simp only [Act.put, List.setIfInBounds_toArray, List.set_cons_zero, List.set_cons_succ]
      refine anyT_put 5 41 ?rv5 #[true, true, true, true, true, true, false, false, false, false, false, false, false, false, false, false, false, false, false, false, false, false] rfl rfl rfl (by kernel_rfl) (by kernel_rfl) (by kernel_rfl) (fun _ _ _ h => h) (by decide) ?ry5 (fun _ => ⟨p2, t2, ck⟩) ?rm5
      case ry5 => first | exact Or.inl ⟨by rfl, by intro w'; go_simp; first | done | rfl⟩
      case rm5 =>
      simp only [Act.put, List.setIfInBounds_toArray, List.set_cons_zero, List.set_cons_succ]
      refine anyT_put 6 42 ?rv6 #[true, true, true, true, true, true, true, false, false, false, false, false, false, false, false, false, false, false, false, false, false, false] rfl rfl rfl (by kernel_rfl) (by kernel_rfl) (by kernel_rfl) (fun _ _ _ h => h) (by decide) ?ry6 (fun _ => ⟨p2, t2, ck⟩) ?rm6
      case ry6 => first | exact Or.inl ⟨by rfl, by intro w'; go_simp; first | done | rfl⟩
      case rm6 =>
      simp only [Act.put, List.setIfInBounds_toArray, List.set_cons_zero, List.set_cons_succ]
      refine anyT_take 7 43 ?rv7 #[true, true, true, true, true, true, true, true, false, false, false, false, false, false, false, false, false, false, false, false, false, false] rfl rfl rfl (by kernel_rfl) (by kernel_rfl) (by kernel_rfl) (fun _ _ _ h => h) (by kernel_rfl) (by decide) (by kernel_rfl) ?ry7 (⟨p2, t2, ck⟩) ?rm7
      case ry7 => first | exact Or.inl ⟨by rfl, by intro w' hw'; (try dsimp only at hw'); go_simp; first | done | rfl⟩
      case rm7 =>
      simp only [Act.put, List.setIfInBounds_toArray, List.set_cons_zero, List.set_cons_succ]
      refine anyT_put 8 44 ?rv8 #[true, true, true, true, true, true, true, true, true, false, false, false, false, false, false, false, false, false, false, false, false, false] rfl rfl rfl (by kernel_rfl) (by kernel_rfl) (by kernel_rfl) (fun _ _ _ h => h) (by decide) ?ry8 (fun _ => ⟨p2, t2, ck⟩) ?rm8
      case ry8 => first | exact Or.inl ⟨by rfl, by intro w'; go_simp; first | done | rfl⟩
      case rm8 =>
      simp only [Act.put, List.setIfInBounds_toArray, List.set_cons_zero, List.set_cons_succ]
      refine anyT_put 9 45 ?rv9 #[true, true, true, true, true, true, true, true, true, true, false, false, false, false, false, false, false, false, false, false, false, false] rfl rfl rfl (by kernel_rfl) (by kernel_rfl) (by kernel_rfl) (fun _ _ _ h => h) (by decide) ?ry9 (fun _ => ⟨p2, t2, ck⟩) ?rm9
      case ry9 => first | exact Or.inl ⟨by rfl, by intro w'; go_simp; first | done | rfl⟩
      case rm9 =>
      simp only [Act.put, List.setIfInBounds_toArray, List.set_cons_zero, List.set_cons_succ]
      refine anyT_put 10 46 ?rv10 #[true, true, true, true, true, true, true, true, true, true, true, false, false, false, false, false, false, false, false, false, false, false] rfl rfl rfl (by kernel_rfl) (by kernel_rfl) (by kernel_rfl) (fun _ _ _ h => h) (by decide) ?ry10 (fun _ => ⟨p2, t2, ck⟩) ?rm10
      case ry10 => first | exact Or.inl ⟨by rfl, by intro w'; go_simp; first | done | rfl⟩
      case rm10 =>
      simp only [Act.put, List.setIfInBounds_toArray, List.set_cons_zero, List.set_cons_succ]
      refine anyT_put 11 47 ?rv11 #[true, true, true, true, true, true, true, true, true, true, true, true, false, false, false, false, false, false, false, false, false, false] rfl rfl rfl (by kernel_rfl) (by kernel_rfl) (by kernel_rfl) (fun _ _ _ h => h) (by decide) ?ry11 (fun _ => ⟨p2, t2, ck⟩) ?rm11
      case ry11 => first | exact Or.inl ⟨by rfl, by intro w'; go_simp; first | done | rfl⟩
      case rm11 =>
      simp only [Act.put, List.setIfInBounds_toArray, List.set_cons_zero, List.set_cons_succ]
      refine anyT_put 12 48 ?rv12 #[true, true, true, true, true, true, true, true, true, true, true, true, true, false, false, false, false, false, false, false, false, false] rfl rfl rfl (by kernel_rfl) (by kernel_rfl) (by kernel_rfl) (fun _ _ _ h => h) (by decide) ?ry12 (fun _ => ⟨p2, t2, ck⟩) ?rm12
      case ry12 => first | exact Or.inl ⟨by rfl, by intro w'; go_simp; first | done | rfl⟩
      case rm12 =>
      simp only [Act.put, List.setIfInBounds_toArray, List.set_cons_zero, List.set_cons_succ]
      refine anyT_take 13 49 ?rv13 #[true, true, true, true, true, true, true, true, true, true, true, true, true, true, false, false, false, false, false, false, false, false] rfl rfl rfl (by kernel_rfl) (by kernel_rfl) (by kernel_rfl) (fun _ _ _ h => h) (by kernel_rfl) (by decide) (by kernel_rfl) ?ry13 (⟨p2, t2, ck⟩) ?rm13
      case ry13 => first | exact Or.inl ⟨by rfl, by intro w' hw'; (try dsimp only at hw'); go_simp; first | done | rfl⟩
      case rm13 =>
      simp only [Act.put, List.setIfInBounds_toArray, List.set_cons_zero, List.set_cons_succ]
      refine anyT_put 14 50 ?rv14 #[true, true, true, true, true, true, true, true, true, true, true, true, true, true, true, false, false, false, false, false, false, false] rfl rfl rfl (by kernel_rfl) (by kernel_rfl) (by kernel_rfl) (fun _ _ _ h => h) (by decide) ?ry14 (fun _ => ⟨p2, t2, ck⟩) ?rm14
      case ry14 => first | exact Or.inl ⟨by rfl, by intro w'; go_simp; first | done | rfl⟩
      case rm14 =>
      simp only [Act.put, List.setIfInBounds_toArray, List.set_cons_zero, List.set_cons_succ]
      refine anyT_put 15 51 ?rv15 #[true, true, true, true, true, true, true, true, true, true, true, true, true, true, true, true, false, false, false, false, false, false] rfl rfl rfl (by kernel_rfl) (by kernel_rfl) (by kernel_rfl) (fun _ _ _ h => h) (by decide) ?ry15 (fun _ => ⟨p2, t2, ck⟩) ?rm15
      case ry15 => first | exact Or.inl ⟨by rfl, by intro w'; go_simp; first | done | rfl⟩
      case rm15 =>
      simp only [Act.put, List.setIfInBounds_toArray, List.set_cons_zero, List.set_cons_succ]
      refine anyT_put 16 52 ?rv16 #[true, true, true, true, true, true, true, true, true, true, true, true, true, true, true, true, true, false, false, false, false, false] rfl rfl rfl (by kernel_rfl) (by kernel_rfl) (by kernel_rfl) (fun _ _ _ h => h) (by decide) ?ry16 (fun _ => ⟨p2, t2, ck⟩) ?rm16
      case ry16 => first | exact Or.inl ⟨by rfl, by intro w'; go_simp; first | done | rfl⟩
      case rm16 =>
      simp only [Act.put, List.setIfInBounds_toArray, List.set_cons_zero, List.set_cons_succ]
      refine anyT_put 17 53 ?rv17 #[true, true, true, true, true, true, true, true, true, true, true, true, true, true, true, true, true, true, false, false, false, false] rfl rfl rfl (by kernel_rfl) (by kernel_rfl) (by kernel_rfl) (fun _ _ _ h => h) (by decide) ?ry17 (fun _ => ⟨p2, t2, ck⟩) ?rm17
      case ry17 => first | exact Or.inl ⟨by rfl, by intro w'; go_simp; first | done | rfl⟩
      case rm17 =>
      simp only [Act.put, List.setIfInBounds_toArray, List.set_cons_zero, List.set_cons_succ]
      refine anyT_put 18 54 ?rv18 #[true, true, true, true, true, true, true, true, true, true, true, true, true, true, true, true, true, true, true, false, false, false] rfl rfl rfl (by kernel_rfl) (by kernel_rfl) (by kernel_rfl) (fun _ _ _ h => h) (by decide) ?ry18 (fun _ => ⟨p2, t2, ck⟩) ?rm18
      case ry18 => first | exact Or.inl ⟨by rfl, by intro w'; go_simp; first | done | rfl⟩
      case rm18 =>
      simp only [Act.put, List.setIfInBounds_toArray, List.set_cons_zero, List.set_cons_succ]
      refine anyT_one 19 #[true, true, true, true, true, true, true, true, true, true, true, true, true, true, true, true, true, true, true, true, false, false] (by kernel_rfl) rfl rfl (fun K hK => ?_)
      refine app_all_step 55 rfl rfl _ _ rfl _ v3.heap.size (.slice g7 M c7) (srD dz1 lo (O.take k)) M HM.out.2 AX (rwL dz1 lo X) lo (dc1 - K0) HLL.out.1 rfl rfl HW.out.drew HIr.out (by omega) hzw ?_
      intro g9 gc9 v9 hown9 hN9 hB9
      have HB9 : Hid (Below v3.heap.size wr v9) := (Below.refl _ wr).drew.trans hB9
      have A9 := HA.out.bel HB9.out (by omega)
      have T9 := HWt.out.bel HB9.out hB2
      have M9 : MidC w.heap.size B v9 (some ⟨bo, oo, none⟩) O h1 := HMM.out.1.gob10 (by omega) HB9.out
      have u2 := T9.c2
      have u2f := T9.fr 2
      have c9 := (HB9.out.cell (p := ⟨bo, oo + k, none⟩) (by have := HMM.out.1.bd10 (q := k) (by omega); show bo < _; omega)).trans ck
      have a9 := (HB9.out.cell (p := ⟨w.heap.size, 2, none⟩) (by show w.heap.size < _; omega)).trans p2
      refine hK.out _ _ (fun _ => ⟨a9, T9.c2, c9⟩) ?_
      clear hK K
      simp only [Act.put, List.setIfInBounds_toArray, List.set_cons_zero, List.set_cons_succ]
      refine anyT_one 20 #[true, true, true, true, true, true, true, true, true, true, true, true, true, true, true, true, true, true, true, true, true, false] (by kernel_rfl) rfl rfl (fun K hK => ?_)
      go_simp
      refine hK.out _ _ (fun h => absurd h (by decide)) ?_
      clear hK K
      refine anyT_one 21 #[true, true, true, true, true, true, true, true, true, true, true, true, true, true, true, true, true, true, true, true, true, true] (by kernel_rfl) rfl rfl (fun K hK => ?_)
      go_simp
      refine hK.out _ _ (fun h => absurd h (by decide)) ?_
      clear hK K
      refine anyT_done (by kernel_rfl) ?_
      go_wp2_with fail
      refine ⟨⟨k + 1, .slice g9 (M + lo) gc9, by omega, by go_num, A9.ot (a := ⟨B, 2, none⟩) (by show w.heap.size ≠ B; omega) _, T9.s2 _, ?_, M9.s1 (p := ⟨B, 2, none⟩) (.inr (Nat.le_refl _)) _, (HMM.out.2.gob10 (Nat.le_refl _) HB9.out).s1 (p := ⟨B, 2, none⟩) (.inl (Nat.lt_succ_self _)) _, ?_, ?_⟩, by simp [intOf]; omega⟩
      · rw [srD_take (by omega), ← HX.out, Nat.add_mul, Nat.one_mul, ← HM.out.1]
        exact ownsRow_setCell_below hown9 (show B < _ from hB2) _
      · have := HB9.out.size; simp [World.setCell]; omega
      · exact ((HBw.out.trans (HB9.out.mono (by omega))).setCell (p := ⟨B, 2, none⟩) (by show w.heap.size ≤ B; omega) _)
    · obtain rfl : k = n := by omega
      have HT : Hid (srD dz1 lo (O.take k) = gdD sz1 dz1) := by show _ = _; rw [List.take_of_length_le hol1]; exact HGD.out
      rw [HT.out] at HN7 HM
      obtain ⟨Q, hQ⟩ : ∃ Q, Q = gdD sz1 dz1 := ⟨_, rfl⟩
      rw [← hQ] at HN7 HM
      have HQ : Hid (gdE c1 sz1 dz1 = 0 ∧ gdD sz1 dz1 = Q) := ⟨F1.out, hQ.symm⟩
      have hM4 : M ≤ 4096 := by have h7 := HM.out.1; have h8 := HOL.out.2.2; omega
      have HSo : Hid (Calls Tryd.prog 11 #[.agg #[.bool c1, .slice sa1 sz1.length sc1, .slice da1 dz1.length dc1]] wr (OkB c1 sz1 Q wr)) := sow_ok c1 sa1 sc1 sz1 sz1.length rfl da1 dc1 dz1 dz1.length rfl wr x11 x12 ((HI1.out.1.below HBw.out).mono HBw.out.size) ((HI1.out.2.1.below HBw.out).mono HBw.out.size) Q HS HQ.out
      have a0 := HA.out.c0
      have a1 := HA.out.c1
      have a2 := HA.out.c2
      clear hM1 hQ hk hkn HT
      go_wp2_with fail
      refine HSo.out.mono ?_
      rintro e v9 ⟨xa, xc, ya, yc, rfl, hX9, hY9, hB9⟩
      obtain ⟨v10, hv10⟩ : ∃ v10, v10 = v9.alloc (.cells #[.bool c1, .slice xa sz1.length xc, .slice ya Q.length yc] 24) := ⟨_, rfl⟩
      have hBa : Below v9.heap.size v9 v10 := by rw [hv10]; exact (Below.refl _ v9).alloc (Nat.le_refl _) _
      have HBx : Hid (Below w.heap.size w v10) := (HBw.out.trans (hB9.mono HBw.out.size)).trans (hBa.mono (HBw.out.trans (hB9.mono HBw.out.size)).size)
      have HB10 : Hid (Below wr.heap.size wr v10) := hB9.trans (hBa.mono hB9.size)
      have T10 := HWt.out.go HB10.out
      have G10 : Abx v10 v9.heap.size (.bool c1) (.slice xa sz1.length xc) (.slice ya Q.length yc) := by rw [hv10]; exact Abx.new v9 _ _ _
      have t0 := T10.c0
      have t1 := T10.c1
      have t2 := T10.c2
      have g0 := G10.c0
      have g1' := G10.c1
      have g2 := G10.c2
      have HIS : Hid (Calls Tryd.prog 12 #[.agg #[.bool c1, .slice xa sz1.length xc, .slice ya Q.length yc], .nilIface, .agg #[.bool c1, .slice g5 sz1.length h5, .slice g7 M c7], .int .i64 0] v10 fun r w' => r = .returned (.bool true) ∧ Below v10.heap.size v10 w') := is_ok10 c1 sz1 sz1.length rfl Q M HM.out.2 xa xc ya yc g5 h5 g7 c7 (by omega) (by omega) v10 (HG.out.below HBx.out HG.out.pos) ((hX9.go hBa).ints).1 ((hY9.go hBa).ints).1 (((HMM.out.2.is (by omega)).1.below HB10.out).mono HB10.out.size) (((HN7.out.ints).1.below HB10.out).mono HB10.out.size)
      have HV : Hid (v10 = v9.alloc (.cells #[.bool c1, .slice xa sz1.length xc, .slice ya Q.length yc] 24)) := hv10
      clear hX9 hY9 hB9 hBa T10 G10 a0 a1 a2 hv10
      go_upto_region 12 with fail
      rw [← HV.out]
      go_wp2_with fail
      refine HIS.out.mono ?_
      rintro e v11 ⟨rfl, hB11⟩
      go_wp2_with fail
      go_ret
      exact ⟨rfl, HBx.out.trans (hB11.mono HBx.out.size)⟩
theorem gsorts_walk (HS : CSo) (c1 : Bool) (sa1 : Option Addr) (sc1 : Nat) (sz1 : List Int) (da1 : Option Addr) (dc1 : Nat) (dz1 : List Int) (w : World) (hg : HasErr w) (w8 : IsArrD w sa1 sz1 sc1 da1 dz1 dc1) :
    Calls Tryd.prog 4 #[.agg #[.bool c1, .slice sa1 sz1.length sc1, .slice da1 dz1.length dc1]] w fun e w' => e = .returned (.bool true) ∧ Below w.heap.size w w' := by
  by_cases h1 : gdE c1 sz1 dz1 = 0
  · exact sorts_ok HS c1 sa1 sc1 sz1 da1 dc1 dz1 w hg w8 h1
  · exact sorts_no HS c1 sa1 sc1 sz1 da1 dc1 dz1 w hg w8 h1
end Go.Proofs.YteddkfeiikdekaaDoor
