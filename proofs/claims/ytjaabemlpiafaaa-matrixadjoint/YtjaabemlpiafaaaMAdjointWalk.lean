/-
  The walk of the statement MatrixAdjoint, given what the program tells.
-/
import Derived.Test.YtjaabemlpiafaaaMte
import Derived.Test.YtjaabemlpiafaaaMidc
namespace Go.Proofs.Ytjaabemlpiafaaa
open Go.RowKit
set_option linter.unusedVariables false

theorem shp14 {w v : World} {b o n sc : Nat} (h : IsC w.heap.size w (some ⟨b, o, none⟩) [(n : Int), (n : Int)] sc) (hB : Below w.heap.size w v) : b < w.heap.size ∧ v.cell? ⟨b, o, none⟩ = some (.int .i64 (n : Int)) := by
  obtain ⟨b', o', e, hb, hc⟩ := (h.1.below hB).at (q := 0) (by simp)
  cases e
  have h0 := hc 0 (by simp)
  rw [Nat.add_zero] at h0
  exact ⟨hb, h0⟩
theorem opn14 {w : World} {sa : Option Addr} {n sc : Nat} (h : IsC w.heap.size w sa [(n : Int), (n : Int)] sc) : ∃ b o, sa = some ⟨b, o, none⟩ := by
  obtain ⟨b, o, e, _, _⟩ := h.1.at (q := 0) (by simp)
  exact ⟨b, o, e⟩
set_option maxRecDepth 100000 in
set_option maxHeartbeats 4000000 in
theorem adjo_a (HNi : CNi) (c1 : Bool) (sa1 : Option Addr) (sc1 : Nat) (sz1 : List Int) (da1 : Option Addr) (dc1 : Nat) (dz1 : List Int) (w : World) (w8 : IsArrD w sa1 sz1 sc1 da1 dz1 dc1) (G1 : Hid (¬ SqP c1 sz1 dz1)) :
    Calls Try.prog 4 #[.agg #[.bool c1, .slice sa1 sz1.length sc1, .slice da1 dz1.length dc1]] w fun e w' => e = .returned (.bool true) ∧ Below w.heap.size w w' := by
  have HI1 : Hid (IsC w.heap.size w sa1 sz1 sc1 ∧ IsC w.heap.size w da1 dz1 dc1) := ⟨w8.2.2.1, w8.2.2.2.1⟩
  have n1 := Abx.new w (.bool c1) (.slice sa1 sz1.length sc1) (.slice da1 dz1.length dc1)
  go_enter Try.func4, Try.ntmps4
  go_wp2_with fail
  obtain ⟨wo2, hwo2⟩ : ∃ wo2, wo2 = (w.alloc (.cells #[.bool c1, .slice sa1 sz1.length sc1, .slice da1 dz1.length dc1] 24)) := ⟨_, rfl⟩
  rw [← hwo2]
  have z3 : w.heap.size + 1 ≤ wo2.heap.size := by rw [hwo2]; simp only [World.size_alloc]; omega
  have B4 : Hid (Abx wo2 (w.heap.size) (.bool c1) (.slice sa1 sz1.length sc1) (.slice da1 dz1.length dc1)) := by rw [hwo2]; exact n1
  have hb5 : Hid (Below w.heap.size w wo2) := by rw [hwo2]; exact ((Below.refl w.heap.size w).alloc (by omega) (.cells #[.bool c1, .slice sa1 sz1.length sc1, .slice da1 dz1.length dc1] 24))
  have zwo2 : w.heap.size ≤ wo2.heap.size := hb5.out.size
  clear hwo2 n1
  refine (fact14_any _).mono ?_
  rintro e v1 ⟨rfl, hB⟩
  have z6 : wo2.heap.size ≤ v1.heap.size := hB.size
  have B7 : Hid (Abx v1 (w.heap.size) (.bool c1) (.slice sa1 sz1.length sc1) (.slice da1 dz1.length dc1)) := B4.out.go hB
  have hb8 : Hid (Below w.heap.size w v1) := hb5.out.trans (hB.mono hb5.out.size)
  clear hB hb5 B4
  have l9 := (B7.out).c0
  have l10 := (B7.out).c1
  have l11 := (B7.out).c2
  go_wp2_with fail
  clear l9 l10 l11
  refine (square_no c1 sa1 sc1 sz1 da1 dc1 dz1 _ ((HI1.out.1.below hb8.out).mono hb8.out.size).1 G1.out).mono ?_
  rintro e v2 ⟨rfl, hB⟩
  have z12 : v1.heap.size ≤ v2.heap.size := hB.size
  have B13 : Hid (Abx v2 (w.heap.size) (.bool c1) (.slice sa1 sz1.length sc1) (.slice da1 dz1.length dc1)) := B7.out.go hB
  have hb14 : Hid (Below w.heap.size w v2) := hb8.out.trans (hB.mono hb8.out.size)
  clear hB hb8 B7
  go_wp2_with fail
  go_ret
  exact ⟨rfl, hb14.out⟩
set_option maxRecDepth 100000 in
set_option maxHeartbeats 4000000 in
theorem adjo_ok (HNi : CNi) (n : Nat) (hn : n ≤ 6) (b1 o1 sc1 : Nat) (da1 : Option Addr) (dc1 : Nat) (dz1 : List Int) (HL1 : Hid (dz1.length = n * n)) (w : World) (HI1 : Hid (IsC w.heap.size w (some ⟨b1, o1, none⟩) [(n : Int), (n : Int)] sc1 ∧ IsC w.heap.size w da1 dz1 dc1 ∧ ∀ j, In64 (nth dz1 j))) :
    Calls Try.prog 4 #[.agg #[.bool false, .slice (some ⟨b1, o1, none⟩) 2 sc1, .slice da1 dz1.length dc1]] w fun e w' => e = .returned (.bool true) ∧ Below w.heap.size w w' := by
  have n1 := Abx.new w (.bool false) (.slice (some ⟨b1, o1, none⟩) 2 sc1) (.slice da1 dz1.length dc1)
  go_enter Try.func4, Try.ntmps4
  go_wp2_with fail
  obtain ⟨wo2, hwo2⟩ : ∃ wo2, wo2 = (w.alloc (.cells #[.bool false, .slice (some ⟨b1, o1, none⟩) 2 sc1, .slice da1 dz1.length dc1] 24)) := ⟨_, rfl⟩
  rw [← hwo2]
  have z3 : w.heap.size + 1 ≤ wo2.heap.size := by rw [hwo2]; simp only [World.size_alloc]; omega
  have B4 : Hid (Abx wo2 (w.heap.size) (.bool false) (.slice (some ⟨b1, o1, none⟩) 2 sc1) (.slice da1 dz1.length dc1)) := by rw [hwo2]; exact n1
  have hb5 : Hid (Below w.heap.size w wo2) := by rw [hwo2]; exact ((Below.refl w.heap.size w).alloc (by omega) (.cells #[.bool false, .slice (some ⟨b1, o1, none⟩) 2 sc1, .slice da1 dz1.length dc1] 24))
  have zwo2 : w.heap.size ≤ wo2.heap.size := hb5.out.size
  clear hwo2 n1
  refine (fact14_any _).mono ?_
  rintro e v1 ⟨rfl, hB⟩
  have z6 : wo2.heap.size ≤ v1.heap.size := hB.size
  have B7 : Hid (Abx v1 (w.heap.size) (.bool false) (.slice (some ⟨b1, o1, none⟩) 2 sc1) (.slice da1 dz1.length dc1)) := B4.out.go hB
  have hb8 : Hid (Below w.heap.size w v1) := hb5.out.trans (hB.mono hb5.out.size)
  clear hB hb5 B4
  have l9 := (B7.out).c0
  have l10 := (B7.out).c1
  have l11 := (B7.out).c2
  go_wp2_with fail
  clear l9 l10 l11
  refine (square_yes n hn (some ⟨b1, o1, none⟩) sc1 da1 dc1 dz1 dz1.length rfl HL1.out _ ((HI1.out.1.below hb8.out).mono hb8.out.size).1).mono ?_
  rintro e v2 ⟨rfl, hB⟩
  have z12 : v1.heap.size ≤ v2.heap.size := hB.size
  have B13 : Hid (Abx v2 (w.heap.size) (.bool false) (.slice (some ⟨b1, o1, none⟩) 2 sc1) (.slice da1 dz1.length dc1)) := B7.out.go hB
  have hb14 : Hid (Below w.heap.size w v2) := hb8.out.trans (hB.mono hb8.out.size)
  clear hB hb8 B7
  have l15 := (B13.out).c0
  have l16 := (B13.out).c1
  have l17 := (B13.out).c2
  go_wp2_with fail
  clear l15 l16 l17
  refine (madj_ok n hn (some ⟨b1, o1, none⟩) sc1 da1 dc1 dz1 dz1.length rfl HL1.out _ ((HI1.out.1.below hb14.out).mono hb14.out.size).1 ((HI1.out.2.1.below hb14.out).mono hb14.out.size).1).mono ?_
  rintro e v3 ⟨xa1, xc1, ya1, yc1, rfl, hX1, hY1, hB⟩
  have z18 : v2.heap.size ≤ v3.heap.size := hB.size
  have B19 : Hid (Abx v3 (w.heap.size) (.bool false) (.slice (some ⟨b1, o1, none⟩) 2 sc1) (.slice da1 dz1.length dc1)) := B13.out.go hB
  have hb20 : Hid (Below w.heap.size w v3) := hb14.out.trans (hB.mono hb14.out.size)
  have L21 : Hid (MidC (v2.heap.size) (v3.heap.size) v3 (xa1) ([(n : Int), (n : Int)]) (xc1)) := hX1.midc
  have L22 : Hid (MidC (v2.heap.size) (v3.heap.size) v3 (ya1) (cls n (ajg n (rdg n dz1))) (yc1)) := hY1.midc
  clear hB hb14 B13 hX1 hY1
  have n23 := Abx.new v3 (.bool false) (.slice (xa1) 2 (xc1)) (.slice (ya1) (cls n (ajg n (rdg n dz1))).length (yc1))
  have l24 := ((B19.out.al (.cells #[.bool false, .slice (xa1) 2 (xc1), .slice (ya1) (cls n (ajg n (rdg n dz1))).length (yc1)] 24))).c0
  have l25 := ((B19.out.al (.cells #[.bool false, .slice (xa1) 2 (xc1), .slice (ya1) (cls n (ajg n (rdg n dz1))).length (yc1)] 24))).c1
  have l26 := ((B19.out.al (.cells #[.bool false, .slice (xa1) 2 (xc1), .slice (ya1) (cls n (ajg n (rdg n dz1))).length (yc1)] 24))).c2
  have l27 := (n23).c0
  have l28 := (n23).c1
  have l29 := (n23).c2
  go_wp2_with fail
  obtain ⟨wo30, hwo30⟩ : ∃ wo30, wo30 = (v3.alloc (.cells #[.bool false, .slice (xa1) 2 (xc1), .slice (ya1) (cls n (ajg n (rdg n dz1))).length (yc1)] 24)) := ⟨_, rfl⟩
  rw [← hwo30]
  have z31 : v3.heap.size + 1 ≤ wo30.heap.size := by rw [hwo30]; simp only [World.size_alloc]; omega
  have B32 : Hid (Abx wo30 (w.heap.size) (.bool false) (.slice (some ⟨b1, o1, none⟩) 2 sc1) (.slice da1 dz1.length dc1)) := by rw [hwo30]; exact (B19.out.al (.cells #[.bool false, .slice (xa1) 2 (xc1), .slice (ya1) (cls n (ajg n (rdg n dz1))).length (yc1)] 24))
  have B33 : Hid (Abx wo30 (v3.heap.size) (.bool false) (.slice (xa1) 2 (xc1)) (.slice (ya1) (cls n (ajg n (rdg n dz1))).length (yc1))) := by rw [hwo30]; exact n23
  have L34 : Hid (MidC (v2.heap.size) (v3.heap.size) wo30 (xa1) ([(n : Int), (n : Int)]) (xc1)) := by rw [hwo30]; exact (L21.out.al (by omega) (.cells #[.bool false, .slice (xa1) 2 (xc1), .slice (ya1) (cls n (ajg n (rdg n dz1))).length (yc1)] 24))
  have L35 : Hid (MidC (v2.heap.size) (v3.heap.size) wo30 (ya1) (cls n (ajg n (rdg n dz1))) (yc1)) := by rw [hwo30]; exact (L22.out.al (by omega) (.cells #[.bool false, .slice (xa1) 2 (xc1), .slice (ya1) (cls n (ajg n (rdg n dz1))).length (yc1)] 24))
  have hb36 : Hid (Below w.heap.size w wo30) := by rw [hwo30]; exact (hb20.out.alloc (by omega) (.cells #[.bool false, .slice (xa1) 2 (xc1), .slice (ya1) (cls n (ajg n (rdg n dz1))).length (yc1)] 24))
  have zwo30 : w.heap.size ≤ wo30.heap.size := hb36.out.size
  clear hwo30 n23 l24 l25 l26 l27 l28 l29 hb20 B19 L21 L22
  refine (minner_ok HNi n hn (some ⟨b1, o1, none⟩) sc1 da1 dc1 dz1 dz1.length rfl HL1.out (xa1) (xc1) (ya1) (yc1) (cls n (ajg n (rdg n dz1))) (cls n (ajg n (rdg n dz1))).length rfl (cls_len n _) _ ((HI1.out.1.below hb36.out).mono hb36.out.size) ((HI1.out.2.1.below hb36.out).mono hb36.out.size).1 HI1.out.2.2 (L34.out.is (by omega)) (L35.out.is (by omega)).1 (ajg_64 n (rdg n dz1))).mono ?_
  rintro e v4 ⟨xa2, xc2, ya2, yc2, rfl, hX2, hY2, hB⟩
  have z37 : wo30.heap.size ≤ v4.heap.size := hB.size
  have B38 : Hid (Abx v4 (w.heap.size) (.bool false) (.slice (some ⟨b1, o1, none⟩) 2 sc1) (.slice da1 dz1.length dc1)) := B32.out.go hB
  have B39 : Hid (Abx v4 (v3.heap.size) (.bool false) (.slice (xa1) 2 (xc1)) (.slice (ya1) (cls n (ajg n (rdg n dz1))).length (yc1))) := B33.out.go hB
  have L40 : Hid (MidC (v2.heap.size) (v3.heap.size) v4 (xa1) ([(n : Int), (n : Int)]) (xc1)) := L34.out.go (by omega) hB
  have L41 : Hid (MidC (v2.heap.size) (v3.heap.size) v4 (ya1) (cls n (ajg n (rdg n dz1))) (yc1)) := L35.out.go (by omega) hB
  have hb42 : Hid (Below w.heap.size w v4) := hb36.out.trans (hB.mono hb36.out.size)
  have L43 : Hid (MidC (wo30.heap.size) (v4.heap.size) v4 (xa2) ([(n : Int), (n : Int)]) (xc2)) := hX2.midc
  have L44 : Hid (MidC (wo30.heap.size) (v4.heap.size) v4 (ya2) (mmL n dz1 (cls n (ajg n (rdg n dz1)))) (yc2)) := hY2.midc
  clear hB hb36 B32 B33 L34 L35 hX2 hY2
  have n45 := Abx.new v4 (.bool false) (.slice (xa2) 2 (xc2)) (.slice (ya2) (mmL n dz1 (cls n (ajg n (rdg n dz1)))).length (yc2))
  have l46 := ((B39.out.al (.cells #[.bool false, .slice (xa2) 2 (xc2), .slice (ya2) (mmL n dz1 (cls n (ajg n (rdg n dz1)))).length (yc2)] 24))).c0
  have l47 := ((B39.out.al (.cells #[.bool false, .slice (xa2) 2 (xc2), .slice (ya2) (mmL n dz1 (cls n (ajg n (rdg n dz1)))).length (yc2)] 24))).c1
  have l48 := ((B39.out.al (.cells #[.bool false, .slice (xa2) 2 (xc2), .slice (ya2) (mmL n dz1 (cls n (ajg n (rdg n dz1)))).length (yc2)] 24))).c2
  have l49 := ((B38.out.al (.cells #[.bool false, .slice (xa2) 2 (xc2), .slice (ya2) (mmL n dz1 (cls n (ajg n (rdg n dz1)))).length (yc2)] 24))).c0
  have l50 := ((B38.out.al (.cells #[.bool false, .slice (xa2) 2 (xc2), .slice (ya2) (mmL n dz1 (cls n (ajg n (rdg n dz1)))).length (yc2)] 24))).c1
  have l51 := ((B38.out.al (.cells #[.bool false, .slice (xa2) 2 (xc2), .slice (ya2) (mmL n dz1 (cls n (ajg n (rdg n dz1)))).length (yc2)] 24))).c2
  go_wp2_with fail
  obtain ⟨wo52, hwo52⟩ : ∃ wo52, wo52 = (v4.alloc (.cells #[.bool false, .slice (xa2) 2 (xc2), .slice (ya2) (mmL n dz1 (cls n (ajg n (rdg n dz1)))).length (yc2)] 24)) := ⟨_, rfl⟩
  rw [← hwo52]
  have z53 : v4.heap.size + 1 ≤ wo52.heap.size := by rw [hwo52]; simp only [World.size_alloc]; omega
  have B54 : Hid (Abx wo52 (w.heap.size) (.bool false) (.slice (some ⟨b1, o1, none⟩) 2 sc1) (.slice da1 dz1.length dc1)) := by rw [hwo52]; exact (B38.out.al (.cells #[.bool false, .slice (xa2) 2 (xc2), .slice (ya2) (mmL n dz1 (cls n (ajg n (rdg n dz1)))).length (yc2)] 24))
  have B55 : Hid (Abx wo52 (v3.heap.size) (.bool false) (.slice (xa1) 2 (xc1)) (.slice (ya1) (cls n (ajg n (rdg n dz1))).length (yc1))) := by rw [hwo52]; exact (B39.out.al (.cells #[.bool false, .slice (xa2) 2 (xc2), .slice (ya2) (mmL n dz1 (cls n (ajg n (rdg n dz1)))).length (yc2)] 24))
  have B56 : Hid (Abx wo52 (v4.heap.size) (.bool false) (.slice (xa2) 2 (xc2)) (.slice (ya2) (mmL n dz1 (cls n (ajg n (rdg n dz1)))).length (yc2))) := by rw [hwo52]; exact n45
  have L57 : Hid (MidC (v2.heap.size) (v3.heap.size) wo52 (xa1) ([(n : Int), (n : Int)]) (xc1)) := by rw [hwo52]; exact (L40.out.al (by omega) (.cells #[.bool false, .slice (xa2) 2 (xc2), .slice (ya2) (mmL n dz1 (cls n (ajg n (rdg n dz1)))).length (yc2)] 24))
  have L58 : Hid (MidC (v2.heap.size) (v3.heap.size) wo52 (ya1) (cls n (ajg n (rdg n dz1))) (yc1)) := by rw [hwo52]; exact (L41.out.al (by omega) (.cells #[.bool false, .slice (xa2) 2 (xc2), .slice (ya2) (mmL n dz1 (cls n (ajg n (rdg n dz1)))).length (yc2)] 24))
  have L59 : Hid (MidC (wo30.heap.size) (v4.heap.size) wo52 (xa2) ([(n : Int), (n : Int)]) (xc2)) := by rw [hwo52]; exact (L43.out.al (by omega) (.cells #[.bool false, .slice (xa2) 2 (xc2), .slice (ya2) (mmL n dz1 (cls n (ajg n (rdg n dz1)))).length (yc2)] 24))
  have L60 : Hid (MidC (wo30.heap.size) (v4.heap.size) wo52 (ya2) (mmL n dz1 (cls n (ajg n (rdg n dz1)))) (yc2)) := by rw [hwo52]; exact (L44.out.al (by omega) (.cells #[.bool false, .slice (xa2) 2 (xc2), .slice (ya2) (mmL n dz1 (cls n (ajg n (rdg n dz1)))).length (yc2)] 24))
  have hb61 : Hid (Below w.heap.size w wo52) := by rw [hwo52]; exact (hb42.out.alloc (by omega) (.cells #[.bool false, .slice (xa2) 2 (xc2), .slice (ya2) (mmL n dz1 (cls n (ajg n (rdg n dz1)))).length (yc2)] 24))
  have zwo52 : w.heap.size ≤ wo52.heap.size := hb61.out.size
  clear hwo52 n45 l46 l47 l48 l49 l50 l51 hb42 B38 B39 L40 L41 L43 L44
  refine (minner_ok HNi n hn (xa1) (xc1) (ya1) (yc1) (cls n (ajg n (rdg n dz1))) (cls n (ajg n (rdg n dz1))).length rfl (cls_len n _) (some ⟨b1, o1, none⟩) sc1 da1 dc1 dz1 dz1.length rfl HL1.out _ (L57.out.is (by omega)) (L58.out.is (by omega)).1 (ajg_64 n (rdg n dz1)) ((HI1.out.1.below hb61.out).mono hb61.out.size) ((HI1.out.2.1.below hb61.out).mono hb61.out.size).1 HI1.out.2.2).mono ?_
  rintro e v5 ⟨xa3, xc3, ya3, yc3, rfl, hX3, hY3, hB⟩
  have z62 : wo52.heap.size ≤ v5.heap.size := hB.size
  have B63 : Hid (Abx v5 (w.heap.size) (.bool false) (.slice (some ⟨b1, o1, none⟩) 2 sc1) (.slice da1 dz1.length dc1)) := B54.out.go hB
  have B64 : Hid (Abx v5 (v3.heap.size) (.bool false) (.slice (xa1) 2 (xc1)) (.slice (ya1) (cls n (ajg n (rdg n dz1))).length (yc1))) := B55.out.go hB
  have B65 : Hid (Abx v5 (v4.heap.size) (.bool false) (.slice (xa2) 2 (xc2)) (.slice (ya2) (mmL n dz1 (cls n (ajg n (rdg n dz1)))).length (yc2))) := B56.out.go hB
  have L66 : Hid (MidC (v2.heap.size) (v3.heap.size) v5 (xa1) ([(n : Int), (n : Int)]) (xc1)) := L57.out.go (by omega) hB
  have L67 : Hid (MidC (v2.heap.size) (v3.heap.size) v5 (ya1) (cls n (ajg n (rdg n dz1))) (yc1)) := L58.out.go (by omega) hB
  have L68 : Hid (MidC (wo30.heap.size) (v4.heap.size) v5 (xa2) ([(n : Int), (n : Int)]) (xc2)) := L59.out.go (by omega) hB
  have L69 : Hid (MidC (wo30.heap.size) (v4.heap.size) v5 (ya2) (mmL n dz1 (cls n (ajg n (rdg n dz1)))) (yc2)) := L60.out.go (by omega) hB
  have hb70 : Hid (Below w.heap.size w v5) := hb61.out.trans (hB.mono hb61.out.size)
  have L71 : Hid (MidC (wo52.heap.size) (v5.heap.size) v5 (xa3) ([(n : Int), (n : Int)]) (xc3)) := hX3.midc
  have L72 : Hid (MidC (wo52.heap.size) (v5.heap.size) v5 (ya3) (mmL n (cls n (ajg n (rdg n dz1))) dz1) (yc3)) := hY3.midc
  clear hB hb61 B54 B55 B56 L57 L58 L59 L60 hX3 hY3
  have n73 := Abx.new v5 (.bool false) (.slice (xa3) 2 (xc3)) (.slice (ya3) (mmL n (cls n (ajg n (rdg n dz1))) dz1).length (yc3))
  have l74 := ((B63.out.al (.cells #[.bool false, .slice (xa3) 2 (xc3), .slice (ya3) (mmL n (cls n (ajg n (rdg n dz1))) dz1).length (yc3)] 24))).c0
  have l75 := ((B63.out.al (.cells #[.bool false, .slice (xa3) 2 (xc3), .slice (ya3) (mmL n (cls n (ajg n (rdg n dz1))) dz1).length (yc3)] 24))).c1
  have l76 := ((B63.out.al (.cells #[.bool false, .slice (xa3) 2 (xc3), .slice (ya3) (mmL n (cls n (ajg n (rdg n dz1))) dz1).length (yc3)] 24))).c2
  go_wp2_with fail
  obtain ⟨wo77, hwo77⟩ : ∃ wo77, wo77 = (v5.alloc (.cells #[.bool false, .slice (xa3) 2 (xc3), .slice (ya3) (mmL n (cls n (ajg n (rdg n dz1))) dz1).length (yc3)] 24)) := ⟨_, rfl⟩
  rw [← hwo77]
  have z78 : v5.heap.size + 1 ≤ wo77.heap.size := by rw [hwo77]; simp only [World.size_alloc]; omega
  have B79 : Hid (Abx wo77 (w.heap.size) (.bool false) (.slice (some ⟨b1, o1, none⟩) 2 sc1) (.slice da1 dz1.length dc1)) := by rw [hwo77]; exact (B63.out.al (.cells #[.bool false, .slice (xa3) 2 (xc3), .slice (ya3) (mmL n (cls n (ajg n (rdg n dz1))) dz1).length (yc3)] 24))
  have B80 : Hid (Abx wo77 (v3.heap.size) (.bool false) (.slice (xa1) 2 (xc1)) (.slice (ya1) (cls n (ajg n (rdg n dz1))).length (yc1))) := by rw [hwo77]; exact (B64.out.al (.cells #[.bool false, .slice (xa3) 2 (xc3), .slice (ya3) (mmL n (cls n (ajg n (rdg n dz1))) dz1).length (yc3)] 24))
  have B81 : Hid (Abx wo77 (v4.heap.size) (.bool false) (.slice (xa2) 2 (xc2)) (.slice (ya2) (mmL n dz1 (cls n (ajg n (rdg n dz1)))).length (yc2))) := by rw [hwo77]; exact (B65.out.al (.cells #[.bool false, .slice (xa3) 2 (xc3), .slice (ya3) (mmL n (cls n (ajg n (rdg n dz1))) dz1).length (yc3)] 24))
  have B82 : Hid (Abx wo77 (v5.heap.size) (.bool false) (.slice (xa3) 2 (xc3)) (.slice (ya3) (mmL n (cls n (ajg n (rdg n dz1))) dz1).length (yc3))) := by rw [hwo77]; exact n73
  have L83 : Hid (MidC (v2.heap.size) (v3.heap.size) wo77 (xa1) ([(n : Int), (n : Int)]) (xc1)) := by rw [hwo77]; exact (L66.out.al (by omega) (.cells #[.bool false, .slice (xa3) 2 (xc3), .slice (ya3) (mmL n (cls n (ajg n (rdg n dz1))) dz1).length (yc3)] 24))
  have L84 : Hid (MidC (v2.heap.size) (v3.heap.size) wo77 (ya1) (cls n (ajg n (rdg n dz1))) (yc1)) := by rw [hwo77]; exact (L67.out.al (by omega) (.cells #[.bool false, .slice (xa3) 2 (xc3), .slice (ya3) (mmL n (cls n (ajg n (rdg n dz1))) dz1).length (yc3)] 24))
  have L85 : Hid (MidC (wo30.heap.size) (v4.heap.size) wo77 (xa2) ([(n : Int), (n : Int)]) (xc2)) := by rw [hwo77]; exact (L68.out.al (by omega) (.cells #[.bool false, .slice (xa3) 2 (xc3), .slice (ya3) (mmL n (cls n (ajg n (rdg n dz1))) dz1).length (yc3)] 24))
  have L86 : Hid (MidC (wo30.heap.size) (v4.heap.size) wo77 (ya2) (mmL n dz1 (cls n (ajg n (rdg n dz1)))) (yc2)) := by rw [hwo77]; exact (L69.out.al (by omega) (.cells #[.bool false, .slice (xa3) 2 (xc3), .slice (ya3) (mmL n (cls n (ajg n (rdg n dz1))) dz1).length (yc3)] 24))
  have L87 : Hid (MidC (wo52.heap.size) (v5.heap.size) wo77 (xa3) ([(n : Int), (n : Int)]) (xc3)) := by rw [hwo77]; exact (L71.out.al (by omega) (.cells #[.bool false, .slice (xa3) 2 (xc3), .slice (ya3) (mmL n (cls n (ajg n (rdg n dz1))) dz1).length (yc3)] 24))
  have L88 : Hid (MidC (wo52.heap.size) (v5.heap.size) wo77 (ya3) (mmL n (cls n (ajg n (rdg n dz1))) dz1) (yc3)) := by rw [hwo77]; exact (L72.out.al (by omega) (.cells #[.bool false, .slice (xa3) 2 (xc3), .slice (ya3) (mmL n (cls n (ajg n (rdg n dz1))) dz1).length (yc3)] 24))
  have hb89 : Hid (Below w.heap.size w wo77) := by rw [hwo77]; exact (hb70.out.alloc (by omega) (.cells #[.bool false, .slice (xa3) 2 (xc3), .slice (ya3) (mmL n (cls n (ajg n (rdg n dz1))) dz1).length (yc3)] 24))
  have zwo77 : w.heap.size ≤ wo77.heap.size := hb89.out.size
  clear hwo77 n73 l74 l75 l76 hb70 B63 B64 B65 L66 L67 L68 L69 L71 L72
  refine (sdet_any n hn (some ⟨b1, o1, none⟩) sc1 da1 dc1 dz1 dz1.length rfl HL1.out _ ((HI1.out.1.below hb89.out).mono hb89.out.size).1 ((HI1.out.2.1.below hb89.out).mono hb89.out.size).1).mono ?_
  rintro e v6 ⟨rfl, hB⟩
  have z90 : wo77.heap.size ≤ v6.heap.size := hB.size
  have B91 : Hid (Abx v6 (w.heap.size) (.bool false) (.slice (some ⟨b1, o1, none⟩) 2 sc1) (.slice da1 dz1.length dc1)) := B79.out.go hB
  have B92 : Hid (Abx v6 (v3.heap.size) (.bool false) (.slice (xa1) 2 (xc1)) (.slice (ya1) (cls n (ajg n (rdg n dz1))).length (yc1))) := B80.out.go hB
  have B93 : Hid (Abx v6 (v4.heap.size) (.bool false) (.slice (xa2) 2 (xc2)) (.slice (ya2) (mmL n dz1 (cls n (ajg n (rdg n dz1)))).length (yc2))) := B81.out.go hB
  have B94 : Hid (Abx v6 (v5.heap.size) (.bool false) (.slice (xa3) 2 (xc3)) (.slice (ya3) (mmL n (cls n (ajg n (rdg n dz1))) dz1).length (yc3))) := B82.out.go hB
  have L95 : Hid (MidC (v2.heap.size) (v3.heap.size) v6 (xa1) ([(n : Int), (n : Int)]) (xc1)) := L83.out.go (by omega) hB
  have L96 : Hid (MidC (v2.heap.size) (v3.heap.size) v6 (ya1) (cls n (ajg n (rdg n dz1))) (yc1)) := L84.out.go (by omega) hB
  have L97 : Hid (MidC (wo30.heap.size) (v4.heap.size) v6 (xa2) ([(n : Int), (n : Int)]) (xc2)) := L85.out.go (by omega) hB
  have L98 : Hid (MidC (wo30.heap.size) (v4.heap.size) v6 (ya2) (mmL n dz1 (cls n (ajg n (rdg n dz1)))) (yc2)) := L86.out.go (by omega) hB
  have L99 : Hid (MidC (wo52.heap.size) (v5.heap.size) v6 (xa3) ([(n : Int), (n : Int)]) (xc3)) := L87.out.go (by omega) hB
  have L100 : Hid (MidC (wo52.heap.size) (v5.heap.size) v6 (ya3) (mmL n (cls n (ajg n (rdg n dz1))) dz1) (yc3)) := L88.out.go (by omega) hB
  have hb101 : Hid (Below w.heap.size w v6) := hb89.out.trans (hB.mono hb89.out.size)
  clear hB hb89 B79 B80 B81 B82 L83 L84 L85 L86 L87 L88
  go_wp2_with fail
  obtain ⟨hqr11, hsr11⟩ : b1 < w.heap.size ∧ v6.cell? ⟨b1, o1, none⟩ = some (.int .i64 (n : Int)) := shp14 HI1.out.1 hb101.out
  have hb0r1 : Below v6.heap.size v6 v6.drew := (Below.refl _ v6).drew
  refine anyC_begin (fun w' => w'.cell? ⟨v4.heap.size, 0, none⟩ = some (.bool false) ∧ w'.cell? ⟨v4.heap.size, 1, none⟩ = some (.slice (xa2) 2 (xc2)) ∧ w'.cell? ⟨v4.heap.size, 2, none⟩ = some (.slice (ya2) (mmL n dz1 (cls n (ajg n (rdg n dz1)))).length (yc2)) ∧ w'.cell? ⟨w.heap.size, 0, none⟩ = some (.bool false) ∧ w'.cell? ⟨w.heap.size, 1, none⟩ = some (.slice (some ⟨b1, o1, none⟩) 2 sc1) ∧ w'.cell? ⟨w.heap.size, 2, none⟩ = some (.slice da1 dz1.length dc1) ∧ w'.cell? ⟨b1, o1, none⟩ = some (.int .i64 (n : Int))) 8 #[false, false, false, false, false, false, false, false] (by kernel_rfl) rfl rfl ?_
  refine anyC_take 0 50 ?rv0 #[true, false, false, false, false, false, false, false] rfl rfl rfl (by kernel_rfl) (by kernel_rfl) (by kernel_rfl) (fun _ _ _ h => h) ?ry0 (⟨(B93.out.go hb0r1).c0, (B93.out.go hb0r1).c1, (B93.out.go hb0r1).c2, (B91.out.go hb0r1).c0, (B91.out.go hb0r1).c1, (B91.out.go hb0r1).c2, (hb0r1.cell (p := ⟨b1, o1, none⟩) (Nat.lt_of_lt_of_le hqr11 hb101.out.size)).trans hsr11⟩) ?rm0
  case ry0 => first | exact Or.inl ⟨by rfl, by intro w' hw'; (try dsimp only at hw'); go_simp; first | done | rfl⟩
  case rm0 =>
  simp only [Act.put, List.setIfInBounds_toArray, List.set_cons_zero, List.set_cons_succ]
  refine anyC_put 1 51 ?rv1 #[true, true, false, false, false, false, false, false] rfl rfl rfl (by kernel_rfl) (by kernel_rfl) (by kernel_rfl) (fun _ _ _ h => h) ?ry1 (⟨(B93.out.go hb0r1).c0, (B93.out.go hb0r1).c1, (B93.out.go hb0r1).c2, (B91.out.go hb0r1).c0, (B91.out.go hb0r1).c1, (B91.out.go hb0r1).c2, (hb0r1.cell (p := ⟨b1, o1, none⟩) (Nat.lt_of_lt_of_le hqr11 hb101.out.size)).trans hsr11⟩) ?rm1
  case ry1 => first | exact Or.inl ⟨by rfl, by intro w'; go_simp; first | done | rfl⟩
  case rm1 =>
  simp only [Act.put, List.setIfInBounds_toArray, List.set_cons_zero, List.set_cons_succ]
  refine anyC_take 2 52 ?rv2 #[true, true, true, false, false, false, false, false] rfl rfl rfl (by kernel_rfl) (by kernel_rfl) (by kernel_rfl) (fun _ _ _ h => h) ?ry2 (⟨(B93.out.go hb0r1).c0, (B93.out.go hb0r1).c1, (B93.out.go hb0r1).c2, (B91.out.go hb0r1).c0, (B91.out.go hb0r1).c1, (B91.out.go hb0r1).c2, (hb0r1.cell (p := ⟨b1, o1, none⟩) (Nat.lt_of_lt_of_le hqr11 hb101.out.size)).trans hsr11⟩) ?rm2
  case ry2 => first | exact Or.inl ⟨by rfl, by intro w' hw'; (try dsimp only at hw'); go_simp; first | done | rfl⟩
  case rm2 =>
  simp only [Act.put, List.setIfInBounds_toArray, List.set_cons_zero, List.set_cons_succ]
  refine anyC_put 3 53 ?rv3 #[true, true, true, true, false, false, false, false] rfl rfl rfl (by kernel_rfl) (by kernel_rfl) (by kernel_rfl) (fun _ _ _ h => h) ?ry3 (⟨(B93.out.go hb0r1).c0, (B93.out.go hb0r1).c1, (B93.out.go hb0r1).c2, (B91.out.go hb0r1).c0, (B91.out.go hb0r1).c1, (B91.out.go hb0r1).c2, (hb0r1.cell (p := ⟨b1, o1, none⟩) (Nat.lt_of_lt_of_le hqr11 hb101.out.size)).trans hsr11⟩) ?rm3
  case ry3 => first | exact Or.inl ⟨by rfl, by intro w'; go_simp; first | done | rfl⟩
  case rm3 =>
  simp only [Act.put, List.setIfInBounds_toArray, List.set_cons_zero, List.set_cons_succ]
  refine anyC_take 4 54 ?rv4 #[true, true, true, true, true, false, false, false] rfl rfl rfl (by kernel_rfl) (by kernel_rfl) (by kernel_rfl) (fun _ _ _ h => h) ?ry4 (⟨(B93.out.go hb0r1).c0, (B93.out.go hb0r1).c1, (B93.out.go hb0r1).c2, (B91.out.go hb0r1).c0, (B91.out.go hb0r1).c1, (B91.out.go hb0r1).c2, (hb0r1.cell (p := ⟨b1, o1, none⟩) (Nat.lt_of_lt_of_le hqr11 hb101.out.size)).trans hsr11⟩) ?rm4
  case ry4 => first | exact Or.inl ⟨by rfl, by intro w' hw'; (try dsimp only at hw'); go_simp; first | done | rfl⟩
  case rm4 =>
  simp only [Act.put, List.setIfInBounds_toArray, List.set_cons_zero, List.set_cons_succ]
  refine anyC_put 5 55 ?rv5 #[true, true, true, true, true, true, false, false] rfl rfl rfl (by kernel_rfl) (by kernel_rfl) (by kernel_rfl) (fun _ _ _ h => h) ?ry5 (⟨(B93.out.go hb0r1).c0, (B93.out.go hb0r1).c1, (B93.out.go hb0r1).c2, (B91.out.go hb0r1).c0, (B91.out.go hb0r1).c1, (B91.out.go hb0r1).c2, (hb0r1.cell (p := ⟨b1, o1, none⟩) (Nat.lt_of_lt_of_le hqr11 hb101.out.size)).trans hsr11⟩) ?rm5
  case ry5 => first | exact Or.inl ⟨by rfl, by intro w'; go_simp; first | done | rfl⟩
  case rm5 =>
  simp only [Act.put, List.setIfInBounds_toArray, List.set_cons_zero, List.set_cons_succ]
  refine anyC_one 6 #[true, true, true, true, true, true, true, false] (by kernel_rfl) rfl rfl (fun K hK => ?_)
  go_simp
  go_wp2_with (go_at_call 10; refine (diag_yes n hn (wrap64 (dt n (rdg n dz1))) (xa2) (xc2) (ya2) (yc2) (mmL n dz1 (cls n (ajg n (rdg n dz1)))) (mmL n dz1 (cls n (ajg n (rdg n dz1)))).length rfl (adj_r n dz1) _ ((L97.out.go (by omega) hb0r1).is (by have := hb0r1.size; omega)).1 ((L98.out.go (by omega) hb0r1).is (by have := hb0r1.size; omega)).1).mono ?_; rintro e y1r1 ⟨rfl, hBy1r1⟩)
  have hby1r1 : Below v6.heap.size v6 y1r1 := hb0r1.trans (hBy1r1.mono hb0r1.size)
  refine hK.out _ _ (⟨(B93.out.go hby1r1).c0, (B93.out.go hby1r1).c1, (B93.out.go hby1r1).c2, (B91.out.go hby1r1).c0, (B91.out.go hby1r1).c1, (B91.out.go hby1r1).c2, (hby1r1.cell (p := ⟨b1, o1, none⟩) (Nat.lt_of_lt_of_le hqr11 hb101.out.size)).trans hsr11⟩) ?_
  clear hK K
  refine anyC_put 7 12 ?rv7 #[true, true, true, true, true, true, true, true] rfl rfl rfl (by kernel_rfl) (by kernel_rfl) (by kernel_rfl) (fun _ _ _ h => h) ?ry7 (⟨(B93.out.go hby1r1).c0, (B93.out.go hby1r1).c1, (B93.out.go hby1r1).c2, (B91.out.go hby1r1).c0, (B91.out.go hby1r1).c1, (B91.out.go hby1r1).c2, (hby1r1.cell (p := ⟨b1, o1, none⟩) (Nat.lt_of_lt_of_le hqr11 hb101.out.size)).trans hsr11⟩) ?rm7
  case ry7 => first | exact Or.inl ⟨by rfl, by intro w'; go_simp; first | done | rfl⟩
  case rm7 =>
  simp only [Act.put, List.setIfInBounds_toArray, List.set_cons_zero, List.set_cons_succ]
  refine anyC_done (by kernel_rfl) ?_
  have hB := hby1r1
  have z102 : v6.heap.size ≤ y1r1.heap.size := hB.size
  have B103 : Hid (Abx y1r1 (w.heap.size) (.bool false) (.slice (some ⟨b1, o1, none⟩) 2 sc1) (.slice da1 dz1.length dc1)) := B91.out.go hB
  have B104 : Hid (Abx y1r1 (v3.heap.size) (.bool false) (.slice (xa1) 2 (xc1)) (.slice (ya1) (cls n (ajg n (rdg n dz1))).length (yc1))) := B92.out.go hB
  have B105 : Hid (Abx y1r1 (v4.heap.size) (.bool false) (.slice (xa2) 2 (xc2)) (.slice (ya2) (mmL n dz1 (cls n (ajg n (rdg n dz1)))).length (yc2))) := B93.out.go hB
  have B106 : Hid (Abx y1r1 (v5.heap.size) (.bool false) (.slice (xa3) 2 (xc3)) (.slice (ya3) (mmL n (cls n (ajg n (rdg n dz1))) dz1).length (yc3))) := B94.out.go hB
  have L107 : Hid (MidC (v2.heap.size) (v3.heap.size) y1r1 (xa1) ([(n : Int), (n : Int)]) (xc1)) := L95.out.go (by omega) hB
  have L108 : Hid (MidC (v2.heap.size) (v3.heap.size) y1r1 (ya1) (cls n (ajg n (rdg n dz1))) (yc1)) := L96.out.go (by omega) hB
  have L109 : Hid (MidC (wo30.heap.size) (v4.heap.size) y1r1 (xa2) ([(n : Int), (n : Int)]) (xc2)) := L97.out.go (by omega) hB
  have L110 : Hid (MidC (wo30.heap.size) (v4.heap.size) y1r1 (ya2) (mmL n dz1 (cls n (ajg n (rdg n dz1)))) (yc2)) := L98.out.go (by omega) hB
  have L111 : Hid (MidC (wo52.heap.size) (v5.heap.size) y1r1 (xa3) ([(n : Int), (n : Int)]) (xc3)) := L99.out.go (by omega) hB
  have L112 : Hid (MidC (wo52.heap.size) (v5.heap.size) y1r1 (ya3) (mmL n (cls n (ajg n (rdg n dz1))) dz1) (yc3)) := L100.out.go (by omega) hB
  have hb113 : Hid (Below w.heap.size w y1r1) := hb101.out.trans (hB.mono hb101.out.size)
  clear hB hb101 B91 B92 B93 B94 L95 L96 L97 L98 L99 L100
  go_wp2_with fail
  obtain ⟨hqr21, hsr21⟩ : b1 < w.heap.size ∧ y1r1.cell? ⟨b1, o1, none⟩ = some (.int .i64 (n : Int)) := shp14 HI1.out.1 hb113.out
  have hb0r2 : Below y1r1.heap.size y1r1 y1r1.drew := (Below.refl _ y1r1).drew
  refine anyC_begin (fun w' => w'.cell? ⟨v5.heap.size, 0, none⟩ = some (.bool false) ∧ w'.cell? ⟨v5.heap.size, 1, none⟩ = some (.slice (xa3) 2 (xc3)) ∧ w'.cell? ⟨v5.heap.size, 2, none⟩ = some (.slice (ya3) (mmL n (cls n (ajg n (rdg n dz1))) dz1).length (yc3)) ∧ w'.cell? ⟨w.heap.size, 0, none⟩ = some (.bool false) ∧ w'.cell? ⟨w.heap.size, 1, none⟩ = some (.slice (some ⟨b1, o1, none⟩) 2 sc1) ∧ w'.cell? ⟨w.heap.size, 2, none⟩ = some (.slice da1 dz1.length dc1) ∧ w'.cell? ⟨b1, o1, none⟩ = some (.int .i64 (n : Int))) 8 #[false, false, false, false, false, false, false, false] (by kernel_rfl) rfl rfl ?_
  refine anyC_take 0 57 ?rv8 #[true, false, false, false, false, false, false, false] rfl rfl rfl (by kernel_rfl) (by kernel_rfl) (by kernel_rfl) (fun _ _ _ h => h) ?ry8 (⟨(B106.out.go hb0r2).c0, (B106.out.go hb0r2).c1, (B106.out.go hb0r2).c2, (B103.out.go hb0r2).c0, (B103.out.go hb0r2).c1, (B103.out.go hb0r2).c2, (hb0r2.cell (p := ⟨b1, o1, none⟩) (Nat.lt_of_lt_of_le hqr21 hb113.out.size)).trans hsr21⟩) ?rm8
  case ry8 => first | exact Or.inl ⟨by rfl, by intro w' hw'; (try dsimp only at hw'); go_simp; first | done | rfl⟩
  case rm8 =>
  simp only [Act.put, List.setIfInBounds_toArray, List.set_cons_zero, List.set_cons_succ]
  refine anyC_put 1 58 ?rv9 #[true, true, false, false, false, false, false, false] rfl rfl rfl (by kernel_rfl) (by kernel_rfl) (by kernel_rfl) (fun _ _ _ h => h) ?ry9 (⟨(B106.out.go hb0r2).c0, (B106.out.go hb0r2).c1, (B106.out.go hb0r2).c2, (B103.out.go hb0r2).c0, (B103.out.go hb0r2).c1, (B103.out.go hb0r2).c2, (hb0r2.cell (p := ⟨b1, o1, none⟩) (Nat.lt_of_lt_of_le hqr21 hb113.out.size)).trans hsr21⟩) ?rm9
  case ry9 => first | exact Or.inl ⟨by rfl, by intro w'; go_simp; first | done | rfl⟩
  case rm9 =>
  simp only [Act.put, List.setIfInBounds_toArray, List.set_cons_zero, List.set_cons_succ]
  refine anyC_take 2 59 ?rv10 #[true, true, true, false, false, false, false, false] rfl rfl rfl (by kernel_rfl) (by kernel_rfl) (by kernel_rfl) (fun _ _ _ h => h) ?ry10 (⟨(B106.out.go hb0r2).c0, (B106.out.go hb0r2).c1, (B106.out.go hb0r2).c2, (B103.out.go hb0r2).c0, (B103.out.go hb0r2).c1, (B103.out.go hb0r2).c2, (hb0r2.cell (p := ⟨b1, o1, none⟩) (Nat.lt_of_lt_of_le hqr21 hb113.out.size)).trans hsr21⟩) ?rm10
  case ry10 => first | exact Or.inl ⟨by rfl, by intro w' hw'; (try dsimp only at hw'); go_simp; first | done | rfl⟩
  case rm10 =>
  simp only [Act.put, List.setIfInBounds_toArray, List.set_cons_zero, List.set_cons_succ]
  refine anyC_put 3 60 ?rv11 #[true, true, true, true, false, false, false, false] rfl rfl rfl (by kernel_rfl) (by kernel_rfl) (by kernel_rfl) (fun _ _ _ h => h) ?ry11 (⟨(B106.out.go hb0r2).c0, (B106.out.go hb0r2).c1, (B106.out.go hb0r2).c2, (B103.out.go hb0r2).c0, (B103.out.go hb0r2).c1, (B103.out.go hb0r2).c2, (hb0r2.cell (p := ⟨b1, o1, none⟩) (Nat.lt_of_lt_of_le hqr21 hb113.out.size)).trans hsr21⟩) ?rm11
  case ry11 => first | exact Or.inl ⟨by rfl, by intro w'; go_simp; first | done | rfl⟩
  case rm11 =>
  simp only [Act.put, List.setIfInBounds_toArray, List.set_cons_zero, List.set_cons_succ]
  refine anyC_take 4 61 ?rv12 #[true, true, true, true, true, false, false, false] rfl rfl rfl (by kernel_rfl) (by kernel_rfl) (by kernel_rfl) (fun _ _ _ h => h) ?ry12 (⟨(B106.out.go hb0r2).c0, (B106.out.go hb0r2).c1, (B106.out.go hb0r2).c2, (B103.out.go hb0r2).c0, (B103.out.go hb0r2).c1, (B103.out.go hb0r2).c2, (hb0r2.cell (p := ⟨b1, o1, none⟩) (Nat.lt_of_lt_of_le hqr21 hb113.out.size)).trans hsr21⟩) ?rm12
  case ry12 => first | exact Or.inl ⟨by rfl, by intro w' hw'; (try dsimp only at hw'); go_simp; first | done | rfl⟩
  case rm12 =>
  simp only [Act.put, List.setIfInBounds_toArray, List.set_cons_zero, List.set_cons_succ]
  refine anyC_put 5 62 ?rv13 #[true, true, true, true, true, true, false, false] rfl rfl rfl (by kernel_rfl) (by kernel_rfl) (by kernel_rfl) (fun _ _ _ h => h) ?ry13 (⟨(B106.out.go hb0r2).c0, (B106.out.go hb0r2).c1, (B106.out.go hb0r2).c2, (B103.out.go hb0r2).c0, (B103.out.go hb0r2).c1, (B103.out.go hb0r2).c2, (hb0r2.cell (p := ⟨b1, o1, none⟩) (Nat.lt_of_lt_of_le hqr21 hb113.out.size)).trans hsr21⟩) ?rm13
  case ry13 => first | exact Or.inl ⟨by rfl, by intro w'; go_simp; first | done | rfl⟩
  case rm13 =>
  simp only [Act.put, List.setIfInBounds_toArray, List.set_cons_zero, List.set_cons_succ]
  refine anyC_one 6 #[true, true, true, true, true, true, true, false] (by kernel_rfl) rfl rfl (fun K hK => ?_)
  go_simp
  go_wp2_with (go_at_call 10; refine (diag_yes n hn (wrap64 (dt n (rdg n dz1))) (xa3) (xc3) (ya3) (yc3) (mmL n (cls n (ajg n (rdg n dz1))) dz1) (mmL n (cls n (ajg n (rdg n dz1))) dz1).length rfl (adj_l n dz1) _ ((L111.out.go (by omega) hb0r2).is (by have := hb0r2.size; omega)).1 ((L112.out.go (by omega) hb0r2).is (by have := hb0r2.size; omega)).1).mono ?_; rintro e y1r2 ⟨rfl, hBy1r2⟩)
  have hby1r2 : Below y1r1.heap.size y1r1 y1r2 := hb0r2.trans (hBy1r2.mono hb0r2.size)
  refine hK.out _ _ (⟨(B106.out.go hby1r2).c0, (B106.out.go hby1r2).c1, (B106.out.go hby1r2).c2, (B103.out.go hby1r2).c0, (B103.out.go hby1r2).c1, (B103.out.go hby1r2).c2, (hby1r2.cell (p := ⟨b1, o1, none⟩) (Nat.lt_of_lt_of_le hqr21 hb113.out.size)).trans hsr21⟩) ?_
  clear hK K
  refine anyC_put 7 13 ?rv15 #[true, true, true, true, true, true, true, true] rfl rfl rfl (by kernel_rfl) (by kernel_rfl) (by kernel_rfl) (fun _ _ _ h => h) ?ry15 (⟨(B106.out.go hby1r2).c0, (B106.out.go hby1r2).c1, (B106.out.go hby1r2).c2, (B103.out.go hby1r2).c0, (B103.out.go hby1r2).c1, (B103.out.go hby1r2).c2, (hby1r2.cell (p := ⟨b1, o1, none⟩) (Nat.lt_of_lt_of_le hqr21 hb113.out.size)).trans hsr21⟩) ?rm15
  case ry15 => first | exact Or.inl ⟨by rfl, by intro w'; go_simp; first | done | rfl⟩
  case rm15 =>
  simp only [Act.put, List.setIfInBounds_toArray, List.set_cons_zero, List.set_cons_succ]
  refine anyC_done (by kernel_rfl) ?_
  have hB := hby1r2
  have z114 : y1r1.heap.size ≤ y1r2.heap.size := hB.size
  have B115 : Hid (Abx y1r2 (w.heap.size) (.bool false) (.slice (some ⟨b1, o1, none⟩) 2 sc1) (.slice da1 dz1.length dc1)) := B103.out.go hB
  have B116 : Hid (Abx y1r2 (v3.heap.size) (.bool false) (.slice (xa1) 2 (xc1)) (.slice (ya1) (cls n (ajg n (rdg n dz1))).length (yc1))) := B104.out.go hB
  have B117 : Hid (Abx y1r2 (v4.heap.size) (.bool false) (.slice (xa2) 2 (xc2)) (.slice (ya2) (mmL n dz1 (cls n (ajg n (rdg n dz1)))).length (yc2))) := B105.out.go hB
  have B118 : Hid (Abx y1r2 (v5.heap.size) (.bool false) (.slice (xa3) 2 (xc3)) (.slice (ya3) (mmL n (cls n (ajg n (rdg n dz1))) dz1).length (yc3))) := B106.out.go hB
  have L119 : Hid (MidC (v2.heap.size) (v3.heap.size) y1r2 (xa1) ([(n : Int), (n : Int)]) (xc1)) := L107.out.go (by omega) hB
  have L120 : Hid (MidC (v2.heap.size) (v3.heap.size) y1r2 (ya1) (cls n (ajg n (rdg n dz1))) (yc1)) := L108.out.go (by omega) hB
  have L121 : Hid (MidC (wo30.heap.size) (v4.heap.size) y1r2 (xa2) ([(n : Int), (n : Int)]) (xc2)) := L109.out.go (by omega) hB
  have L122 : Hid (MidC (wo30.heap.size) (v4.heap.size) y1r2 (ya2) (mmL n dz1 (cls n (ajg n (rdg n dz1)))) (yc2)) := L110.out.go (by omega) hB
  have L123 : Hid (MidC (wo52.heap.size) (v5.heap.size) y1r2 (xa3) ([(n : Int), (n : Int)]) (xc3)) := L111.out.go (by omega) hB
  have L124 : Hid (MidC (wo52.heap.size) (v5.heap.size) y1r2 (ya3) (mmL n (cls n (ajg n (rdg n dz1))) dz1) (yc3)) := L112.out.go (by omega) hB
  have hb125 : Hid (Below w.heap.size w y1r2) := hb113.out.trans (hB.mono hb113.out.size)
  clear hB hb113 B103 B104 B105 B106 L107 L108 L109 L110 L111 L112
  go_wp2_with fail
  go_ret
  exact ⟨rfl, hb125.out⟩
theorem madjo_walk (HNi : CNi) (c1 : Bool) (sa1 : Option Addr) (sc1 : Nat) (sz1 : List Int) (da1 : Option Addr) (dc1 : Nat) (dz1 : List Int) (w : World) (w8 : IsArrD w sa1 sz1 sc1 da1 dz1 dc1) :
    Calls Try.prog 4 #[.agg #[.bool c1, .slice sa1 sz1.length sc1, .slice da1 dz1.length dc1]] w fun e w' => e = .returned (.bool true) ∧ Below w.heap.size w w' := by
  by_cases h1 : SqP c1 sz1 dz1
  · obtain ⟨n, hn, rfl, hl1, rfl⟩ := h1
    obtain ⟨b1, o1, rfl⟩ := opn14 w8.2.2.1
    exact adjo_ok HNi n hn b1 o1 sc1 da1 dc1 dz1 hl1 w ⟨w8.2.2.1, w8.2.2.2.1, w8.2.2.2.2.2⟩
  · exact adjo_a HNi c1 sa1 sc1 sz1 da1 dc1 dz1 w w8 h1
end Go.Proofs.Ytjaabemlpiafaaa
