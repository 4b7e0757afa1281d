/-
  The walk of the statement MatrixBack, given what the program tells.
-/
import Derived.Test.YtjaabemlpiafaabDoorMtv
import Derived.Test.YtjaabemlpiafaabDoorTurnw
import Derived.Test.YtjaabemlpiafaabDoorMidc
import Derived.Test.YtjaabemlpiafaabDoorSarr
import Derived.Test.YtjaabemlpiafaabDoorErr
namespace Go.Proofs.YtjaabemlpiafaabDoor
open Go.RowKit
set_option linter.unusedVariables false

theorem shp14 {w v : World} {b o n sc : Nat} (h : IsC w.heap.size w (some ⟨b, o, none⟩) [(n : Int), (n : Int)] sc) (hB : Below w.heap.size w v) : b < w.heap.size ∧ v.cell? ⟨b, o, none⟩ = some (.int .i64 (n : Int)) := by
  obtain ⟨b', o', e, hb, hc⟩ := (h.1.below hB).at (q := 0) (by simp)
  cases e
  have h0 := hc 0 (by simp)
  rw [Nat.add_zero] at h0
  exact ⟨hb, h0⟩
theorem opn14 {w : World} {sa : Option Addr} {n sc : Nat} (h : IsC w.heap.size w sa [(n : Int), (n : Int)] sc) : ∃ b o, sa = some ⟨b, o, none⟩ := by
  obtain ⟨b, o, e, _, _⟩ := h.1.at (q := 0) (by simp)
  exact ⟨b, o, e⟩
theorem short14 {n : Nat} (hn : n ≤ 6) {D : List Int} (h : D.length = n * n) : D.length ≤ 9223372036854775807 := by
  have : n * n ≤ 6 * 6 := Nat.mul_le_mul hn hn
  omega
theorem sdet_e14 (n : Nat) (hn : n ≤ 6) (sa : Option Addr) (sc : Nat) (da : Option Addr) (dc : Nat) (dz : List Int) (m : Nat) (hm : dz.length = m) (hl : dz.length = n * n) (x : Int) (hx : wrap64 (dt n (rdg n dz)) = x) (w : World) (hs : IsInts w.heap.size w sa [(n : Int), (n : Int)]) (hd : IsInts w.heap.size w da dz) :
    Calls Tryd.prog 8 #[.agg #[.bool false, .slice sa 2 sc, .slice da m dc]] w fun e w' => e = .returned (.int .i64 x) ∧ Below w.heap.size w w' := by
  subst hx
  exact sdet_any n hn sa sc da dc dz m hm hl w hs hd
theorem err6_14 (w : World) (hg : HasErr w) : Calls Tryd.prog 7 #[.iface 32 (.int .i64 6), .int .i64 6] w fun e w' => e = .returned (.bool true) ∧ Below w.heap.size w w' := error_same 6 w hg
set_option maxRecDepth 100000 in
set_option maxHeartbeats 2000000 in
theorem back_a (HNi : CNi) (c1 : Bool) (sa1 : Option Addr) (sc1 : Nat) (sz1 : List Int) (da1 : Option Addr) (dc1 : Nat) (dz1 : List Int) (w : World) (hg : HasErr w) (w8 : IsArrD w sa1 sz1 sc1 da1 dz1 dc1) (G1 : Hid (¬ SqP c1 sz1 dz1)) :
    Calls Tryd.prog 3 #[.agg #[.bool c1, .slice sa1 sz1.length sc1, .slice da1 dz1.length dc1]] w fun e w' => e = .returned (.bool true) ∧ Below w.heap.size w w' := by
  have HI1 : Hid (IsC w.heap.size w sa1 sz1 sc1 ∧ IsC w.heap.size w da1 dz1 dc1) := ⟨w8.2.2.1, w8.2.2.2.1⟩
  have n1 := Abx.new w (.bool c1) (.slice sa1 sz1.length sc1) (.slice da1 dz1.length dc1)
  go_enter Tryd.func3, Tryd.ntmps3
  go_wp2_with fail
  obtain ⟨wo2, hwo2⟩ : ∃ wo2, wo2 = (w.alloc (.cells #[.bool c1, .slice sa1 sz1.length sc1, .slice da1 dz1.length dc1] 24)) := ⟨_, rfl⟩
  rw [← hwo2]
  have z3 : w.heap.size + 1 ≤ wo2.heap.size := by rw [hwo2]; simp only [World.size_alloc]; omega
  have B4 : Hid (Abx wo2 (w.heap.size) (.bool c1) (.slice sa1 sz1.length sc1) (.slice da1 dz1.length dc1)) := by rw [hwo2]; exact n1
  have hb5 : Hid (Below w.heap.size w wo2) := by rw [hwo2]; exact ((Below.refl w.heap.size w).alloc (by omega) (.cells #[.bool c1, .slice sa1 sz1.length sc1, .slice da1 dz1.length dc1] 24))
  have zwo2 : w.heap.size ≤ wo2.heap.size := hb5.out.size
  clear hwo2 n1
  refine (fact14_any _).mono ?_
  rintro e v1 ⟨rfl, hB⟩
  have z6 : wo2.heap.size ≤ v1.heap.size := hB.size
  have B7 : Hid (Abx v1 (w.heap.size) (.bool c1) (.slice sa1 sz1.length sc1) (.slice da1 dz1.length dc1)) := B4.out.go hB
  have hb8 : Hid (Below w.heap.size w v1) := hb5.out.trans (hB.mono hb5.out.size)
  clear hB hb5 B4
  have l9 := (B7.out).c0
  have l10 := (B7.out).c1
  have l11 := (B7.out).c2
  go_wp2_with fail
  clear l9 l10 l11
  refine (square_no c1 sa1 sc1 sz1 da1 dc1 dz1 _ ((HI1.out.1.below hb8.out).mono hb8.out.size).1 G1.out).mono ?_
  rintro e v2 ⟨rfl, hB⟩
  have z12 : v1.heap.size ≤ v2.heap.size := hB.size
  have B13 : Hid (Abx v2 (w.heap.size) (.bool c1) (.slice sa1 sz1.length sc1) (.slice da1 dz1.length dc1)) := B7.out.go hB
  have hb14 : Hid (Below w.heap.size w v2) := hb8.out.trans (hB.mono hb8.out.size)
  clear hB hb8 B7
  go_wp2_with fail
  go_ret
  exact ⟨rfl, hb14.out⟩
set_option maxRecDepth 100000 in
set_option maxHeartbeats 2000000 in
theorem back_e (n : Nat) (hn : n ≤ 6) (b1 o1 sc1 : Nat) (da1 : Option Addr) (dc1 : Nat) (dz1 : List Int) (HL1 : Hid (dz1.length = n * n)) (w : World) (HI1 : Hid (IsC w.heap.size w (some ⟨b1, o1, none⟩) [(n : Int), (n : Int)] sc1 ∧ IsC w.heap.size w da1 dz1 dc1 ∧ ∀ j, In64 (nth dz1 j))) (hg : HasErr w) (hod : wrap64 (dt n (rdg n dz1)) % 2 = 0) :
    Calls Tryd.prog 3 #[.agg #[.bool false, .slice (some ⟨b1, o1, none⟩) 2 sc1, .slice da1 dz1.length dc1]] w fun e w' => e = .returned (.bool true) ∧ Below w.heap.size w w' := by
  have HG : Hid (HasErr w) := hg
  have HE : Hid (wrap64 (dt n (rdg n dz1)) % 2 = 0) := hod
  clear hg hod
  obtain ⟨d, hd⟩ : ∃ d, wrap64 (dt n (rdg n dz1)) = d := ⟨_, rfl⟩
  have HD : Hid (wrap64 (dt n (rdg n dz1)) = d) := hd
  clear hd
  have hr : d.tmod 2 = 0 := Int.tmod_eq_zero_of_dvd (by have := HE.out; rw [HD.out] at this; omega)
  have n1 := Abx.new w (.bool false) (.slice (some ⟨b1, o1, none⟩) 2 sc1) (.slice da1 dz1.length dc1)
  go_enter Tryd.func3, Tryd.ntmps3
  go_wp2_with fail
  obtain ⟨wo2, hwo2⟩ : ∃ wo2, wo2 = (w.alloc (.cells #[.bool false, .slice (some ⟨b1, o1, none⟩) 2 sc1, .slice da1 dz1.length dc1] 24)) := ⟨_, rfl⟩
  rw [← hwo2]
  have z3 : w.heap.size + 1 ≤ wo2.heap.size := by rw [hwo2]; simp only [World.size_alloc]; omega
  have B4 : Hid (Abx wo2 (w.heap.size) (.bool false) (.slice (some ⟨b1, o1, none⟩) 2 sc1) (.slice da1 dz1.length dc1)) := by rw [hwo2]; exact n1
  have hb5 : Hid (Below w.heap.size w wo2) := by rw [hwo2]; exact ((Below.refl w.heap.size w).alloc (by omega) (.cells #[.bool false, .slice (some ⟨b1, o1, none⟩) 2 sc1, .slice da1 dz1.length dc1] 24))
  have zwo2 : w.heap.size ≤ wo2.heap.size := hb5.out.size
  clear hwo2 n1
  refine (fact14_any _).mono ?_
  rintro e v1 ⟨rfl, hB⟩
  have z6 : wo2.heap.size ≤ v1.heap.size := hB.size
  have B7 : Hid (Abx v1 (w.heap.size) (.bool false) (.slice (some ⟨b1, o1, none⟩) 2 sc1) (.slice da1 dz1.length dc1)) := B4.out.go hB
  have hb8 : Hid (Below w.heap.size w v1) := hb5.out.trans (hB.mono hb5.out.size)
  clear hB hb5 B4
  have l9 := (B7.out).c0
  have l10 := (B7.out).c1
  have l11 := (B7.out).c2
  go_wp2_with fail
  clear l9 l10 l11
  refine (square_yes n hn (some ⟨b1, o1, none⟩) sc1 da1 dc1 dz1 dz1.length rfl HL1.out _ ((HI1.out.1.below hb8.out).mono hb8.out.size).1).mono ?_
  rintro e v2 ⟨rfl, hB⟩
  have z12 : v1.heap.size ≤ v2.heap.size := hB.size
  have B13 : Hid (Abx v2 (w.heap.size) (.bool false) (.slice (some ⟨b1, o1, none⟩) 2 sc1) (.slice da1 dz1.length dc1)) := B7.out.go hB
  have hb14 : Hid (Below w.heap.size w v2) := hb8.out.trans (hB.mono hb8.out.size)
  clear hB hb8 B7
  have l15 := (B13.out).c0
  have l16 := (B13.out).c1
  have l17 := (B13.out).c2
  go_wp2_with fail
  clear l15 l16 l17
  refine (minv_even n hn (some ⟨b1, o1, none⟩) sc1 da1 dc1 dz1 dz1.length rfl HL1.out _ ((HI1.out.1.below hb14.out).mono hb14.out.size).1 ((HI1.out.2.1.below hb14.out).mono hb14.out.size).1 HE.out).mono ?_
  rintro e v3 ⟨rfl, hB⟩
  have z18 : v2.heap.size ≤ v3.heap.size := hB.size
  have B19 : Hid (Abx v3 (w.heap.size) (.bool false) (.slice (some ⟨b1, o1, none⟩) 2 sc1) (.slice da1 dz1.length dc1)) := B13.out.go hB
  have hb20 : Hid (Below w.heap.size w v3) := hb14.out.trans (hB.mono hb14.out.size)
  clear hB hb14 B13
  have n21 := Abx.new v3 (.bool false) (.slice none 0 0) (.slice none 0 0)
  go_wp2_with fail
  obtain ⟨wo22, hwo22⟩ : ∃ wo22, wo22 = (v3.alloc (.cells #[.bool false, .slice none 0 0, .slice none 0 0] 24)) := ⟨_, rfl⟩
  rw [← hwo22]
  have z23 : v3.heap.size + 1 ≤ wo22.heap.size := by rw [hwo22]; simp only [World.size_alloc]; omega
  have B24 : Hid (Abx wo22 (w.heap.size) (.bool false) (.slice (some ⟨b1, o1, none⟩) 2 sc1) (.slice da1 dz1.length dc1)) := by rw [hwo22]; exact (B19.out.al (.cells #[.bool false, .slice none 0 0, .slice none 0 0] 24))
  have B25 : Hid (Abx wo22 (v3.heap.size) (.bool false) (.slice none 0 0) (.slice none 0 0)) := by rw [hwo22]; exact n21
  have hb26 : Hid (Below w.heap.size w wo22) := by rw [hwo22]; exact (hb20.out.alloc (by omega) (.cells #[.bool false, .slice none 0 0, .slice none 0 0] 24))
  have zwo22 : w.heap.size ≤ wo22.heap.size := hb26.out.size
  clear hwo22 n21 hb20 B19
  refine (err6_14 _ (HG.out.go hb26.out)).mono ?_
  rintro e v4 ⟨rfl, hB⟩
  have z27 : wo22.heap.size ≤ v4.heap.size := hB.size
  have B28 : Hid (Abx v4 (w.heap.size) (.bool false) (.slice (some ⟨b1, o1, none⟩) 2 sc1) (.slice da1 dz1.length dc1)) := B24.out.go hB
  have B29 : Hid (Abx v4 (v3.heap.size) (.bool false) (.slice none 0 0) (.slice none 0 0)) := B25.out.go hB
  have hb30 : Hid (Below w.heap.size w v4) := hb26.out.trans (hB.mono hb26.out.size)
  clear hB hb26 B24 B25
  have l31 := (B28.out).c0
  have l32 := (B28.out).c1
  have l33 := (B28.out).c2
  go_wp2_with fail
  clear l31 l32 l33
  refine (sdet_e14 n hn (some ⟨b1, o1, none⟩) sc1 da1 dc1 dz1 dz1.length rfl HL1.out d HD.out _ ((HI1.out.1.below hb30.out).mono hb30.out.size).1 ((HI1.out.2.1.below hb30.out).mono hb30.out.size).1).mono ?_
  rintro e v5 ⟨rfl, hB⟩
  have z34 : v4.heap.size ≤ v5.heap.size := hB.size
  have B35 : Hid (Abx v5 (w.heap.size) (.bool false) (.slice (some ⟨b1, o1, none⟩) 2 sc1) (.slice da1 dz1.length dc1)) := B28.out.go hB
  have B36 : Hid (Abx v5 (v3.heap.size) (.bool false) (.slice none 0 0) (.slice none 0 0)) := B29.out.go hB
  have hb37 : Hid (Below w.heap.size w v5) := hb30.out.trans (hB.mono hb30.out.size)
  clear hB hb30 B28 B29
  go_wp2_with fail
  go_ret
  exact ⟨ret_bool (by simp), hb37.out⟩
set_option maxRecDepth 100000 in
set_option maxHeartbeats 2000000 in
theorem back_o (HNi : CNi) (n : Nat) (hn : n ≤ 6) (b1 o1 sc1 : Nat) (da1 : Option Addr) (dc1 : Nat) (dz1 : List Int) (HL1 : Hid (dz1.length = n * n)) (w : World) (HI1 : Hid (IsC w.heap.size w (some ⟨b1, o1, none⟩) [(n : Int), (n : Int)] sc1 ∧ IsC w.heap.size w da1 dz1 dc1 ∧ ∀ j, In64 (nth dz1 j))) (hod : wrap64 (dt n (rdg n dz1)) % 2 = 1) :
    Calls Tryd.prog 3 #[.agg #[.bool false, .slice (some ⟨b1, o1, none⟩) 2 sc1, .slice da1 dz1.length dc1]] w fun e w' => e = .returned (.bool true) ∧ Below w.heap.size w w' := by
  have HE : Hid (wrap64 (dt n (rdg n dz1)) % 2 = 1) := hod
  clear hod
  obtain ⟨d, hd⟩ : ∃ d, wrap64 (dt n (rdg n dz1)) = d := ⟨_, rfl⟩
  have HD : Hid (wrap64 (dt n (rdg n dz1)) = d) := hd
  clear hd
  have HR : Hid (¬ d.tmod 2 = 0) := fun e => by have h := Int.dvd_of_tmod_eq_zero e; have := HE.out; rw [HD.out] at this; omega
  have n1 := Abx.new w (.bool false) (.slice (some ⟨b1, o1, none⟩) 2 sc1) (.slice da1 dz1.length dc1)
  go_enter Tryd.func3, Tryd.ntmps3
  go_wp2_with fail
  obtain ⟨wo2, hwo2⟩ : ∃ wo2, wo2 = (w.alloc (.cells #[.bool false, .slice (some ⟨b1, o1, none⟩) 2 sc1, .slice da1 dz1.length dc1] 24)) := ⟨_, rfl⟩
  rw [← hwo2]
  have z3 : w.heap.size + 1 ≤ wo2.heap.size := by rw [hwo2]; simp only [World.size_alloc]; omega
  have B4 : Hid (Abx wo2 (w.heap.size) (.bool false) (.slice (some ⟨b1, o1, none⟩) 2 sc1) (.slice da1 dz1.length dc1)) := by rw [hwo2]; exact n1
  have hb5 : Hid (Below w.heap.size w wo2) := by rw [hwo2]; exact ((Below.refl w.heap.size w).alloc (by omega) (.cells #[.bool false, .slice (some ⟨b1, o1, none⟩) 2 sc1, .slice da1 dz1.length dc1] 24))
  have zwo2 : w.heap.size ≤ wo2.heap.size := hb5.out.size
  clear hwo2 n1
  refine (fact14_any _).mono ?_
  rintro e v1 ⟨rfl, hB⟩
  have z6 : wo2.heap.size ≤ v1.heap.size := hB.size
  have B7 : Hid (Abx v1 (w.heap.size) (.bool false) (.slice (some ⟨b1, o1, none⟩) 2 sc1) (.slice da1 dz1.length dc1)) := B4.out.go hB
  have hb8 : Hid (Below w.heap.size w v1) := hb5.out.trans (hB.mono hb5.out.size)
  clear hB hb5 B4
  have l9 := (B7.out).c0
  have l10 := (B7.out).c1
  have l11 := (B7.out).c2
  go_wp2_with fail
  clear l9 l10 l11
  refine (square_yes n hn (some ⟨b1, o1, none⟩) sc1 da1 dc1 dz1 dz1.length rfl HL1.out _ ((HI1.out.1.below hb8.out).mono hb8.out.size).1).mono ?_
  rintro e v2 ⟨rfl, hB⟩
  have z12 : v1.heap.size ≤ v2.heap.size := hB.size
  have B13 : Hid (Abx v2 (w.heap.size) (.bool false) (.slice (some ⟨b1, o1, none⟩) 2 sc1) (.slice da1 dz1.length dc1)) := B7.out.go hB
  have hb14 : Hid (Below w.heap.size w v2) := hb8.out.trans (hB.mono hb8.out.size)
  clear hB hb8 B7
  have l15 := (B13.out).c0
  have l16 := (B13.out).c1
  have l17 := (B13.out).c2
  go_wp2_with fail
  clear l15 l16 l17
  refine (minv_v n hn (some ⟨b1, o1, none⟩) sc1 da1 dc1 dz1 dz1.length rfl HL1.out _ ((HI1.out.1.below hb14.out).mono hb14.out.size).1 ((HI1.out.2.1.below hb14.out).mono hb14.out.size).1 HE.out).mono ?_
  rintro e v3 ⟨xa1, xc1, ya1, yc1, rfl, hX1, hY1, hB⟩
  have z18 : v2.heap.size ≤ v3.heap.size := hB.size
  have B19 : Hid (Abx v3 (w.heap.size) (.bool false) (.slice (some ⟨b1, o1, none⟩) 2 sc1) (.slice da1 dz1.length dc1)) := B13.out.go hB
  have hb20 : Hid (Below w.heap.size w v3) := hb14.out.trans (hB.mono hb14.out.size)
  have L21 : Hid (MidC (v2.heap.size) (v3.heap.size) v3 (xa1) ([(n : Int), (n : Int)]) (xc1)) := hX1.midc
  have L22 : Hid (MidC (v2.heap.size) (v3.heap.size) v3 (ya1) (vI n dz1) (yc1)) := hY1.midc
  clear hB hb14 B13 hX1 hY1
  have n23 := Abx.new v3 (.bool false) (.slice (xa1) 2 (xc1)) (.slice (ya1) ((vI n dz1).length) (yc1))
  have l24 := ((B19.out.al (.cells #[.bool false, .slice (xa1) 2 (xc1), .slice (ya1) ((vI n dz1).length) (yc1)] 24))).c0
  have l25 := ((B19.out.al (.cells #[.bool false, .slice (xa1) 2 (xc1), .slice (ya1) ((vI n dz1).length) (yc1)] 24))).c1
  have l26 := ((B19.out.al (.cells #[.bool false, .slice (xa1) 2 (xc1), .slice (ya1) ((vI n dz1).length) (yc1)] 24))).c2
  have l27 := (n23).c0
  have l28 := (n23).c1
  have l29 := (n23).c2
  go_wp2_with fail
  obtain ⟨wo30, hwo30⟩ : ∃ wo30, wo30 = (v3.alloc (.cells #[.bool false, .slice (xa1) 2 (xc1), .slice (ya1) ((vI n dz1).length) (yc1)] 24)) := ⟨_, rfl⟩
  rw [← hwo30]
  have z31 : v3.heap.size + 1 ≤ wo30.heap.size := by rw [hwo30]; simp only [World.size_alloc]; omega
  have B32 : Hid (Abx wo30 (w.heap.size) (.bool false) (.slice (some ⟨b1, o1, none⟩) 2 sc1) (.slice da1 dz1.length dc1)) := by rw [hwo30]; exact (B19.out.al (.cells #[.bool false, .slice (xa1) 2 (xc1), .slice (ya1) ((vI n dz1).length) (yc1)] 24))
  have B33 : Hid (Abx wo30 (v3.heap.size) (.bool false) (.slice (xa1) 2 (xc1)) (.slice (ya1) ((vI n dz1).length) (yc1))) := by rw [hwo30]; exact n23
  have L34 : Hid (MidC (v2.heap.size) (v3.heap.size) wo30 (xa1) ([(n : Int), (n : Int)]) (xc1)) := by rw [hwo30]; exact (L21.out.al (by omega) (.cells #[.bool false, .slice (xa1) 2 (xc1), .slice (ya1) ((vI n dz1).length) (yc1)] 24))
  have L35 : Hid (MidC (v2.heap.size) (v3.heap.size) wo30 (ya1) (vI n dz1) (yc1)) := by rw [hwo30]; exact (L22.out.al (by omega) (.cells #[.bool false, .slice (xa1) 2 (xc1), .slice (ya1) ((vI n dz1).length) (yc1)] 24))
  have hb36 : Hid (Below w.heap.size w wo30) := by rw [hwo30]; exact (hb20.out.alloc (by omega) (.cells #[.bool false, .slice (xa1) 2 (xc1), .slice (ya1) ((vI n dz1).length) (yc1)] 24))
  have zwo30 : w.heap.size ≤ wo30.heap.size := hb36.out.size
  clear hwo30 n23 l24 l25 l26 l27 l28 l29 hb20 B19 L21 L22
  refine (minner_ok HNi n hn (some ⟨b1, o1, none⟩) sc1 da1 dc1 dz1 dz1.length rfl HL1.out (xa1) (xc1) (ya1) (yc1) (vI n dz1) ((vI n dz1).length) rfl (vI_len n dz1) _ ((HI1.out.1.below hb36.out).mono hb36.out.size) ((HI1.out.2.1.below hb36.out).mono hb36.out.size).1 HI1.out.2.2 (L34.out.is (by omega)) (L35.out.is (by omega)).1 (vI_64 n dz1)).mono ?_
  rintro e v4 ⟨xa2, xc2, ya2, yc2, rfl, hX2, hY2, hB⟩
  have z37 : wo30.heap.size ≤ v4.heap.size := hB.size
  have B38 : Hid (Abx v4 (w.heap.size) (.bool false) (.slice (some ⟨b1, o1, none⟩) 2 sc1) (.slice da1 dz1.length dc1)) := B32.out.go hB
  have B39 : Hid (Abx v4 (v3.heap.size) (.bool false) (.slice (xa1) 2 (xc1)) (.slice (ya1) ((vI n dz1).length) (yc1))) := B33.out.go hB
  have L40 : Hid (MidC (v2.heap.size) (v3.heap.size) v4 (xa1) ([(n : Int), (n : Int)]) (xc1)) := L34.out.go (by omega) hB
  have L41 : Hid (MidC (v2.heap.size) (v3.heap.size) v4 (ya1) (vI n dz1) (yc1)) := L35.out.go (by omega) hB
  have hb42 : Hid (Below w.heap.size w v4) := hb36.out.trans (hB.mono hb36.out.size)
  have L43 : Hid (MidC (wo30.heap.size) (v4.heap.size) v4 (xa2) ([(n : Int), (n : Int)]) (xc2)) := hX2.midc
  have L44 : Hid (MidC (wo30.heap.size) (v4.heap.size) v4 (ya2) (mmL n dz1 (vI n dz1)) (yc2)) := hY2.midc
  clear hB hb36 B32 B33 L34 L35 hX2 hY2
  have n45 := Abx.new v4 (.bool false) (.slice (xa2) 2 (xc2)) (.slice (ya2) ((mmL n dz1 (vI n dz1)).length) (yc2))
  have l46 := ((B39.out.al (.cells #[.bool false, .slice (xa2) 2 (xc2), .slice (ya2) ((mmL n dz1 (vI n dz1)).length) (yc2)] 24))).c0
  have l47 := ((B39.out.al (.cells #[.bool false, .slice (xa2) 2 (xc2), .slice (ya2) ((mmL n dz1 (vI n dz1)).length) (yc2)] 24))).c1
  have l48 := ((B39.out.al (.cells #[.bool false, .slice (xa2) 2 (xc2), .slice (ya2) ((mmL n dz1 (vI n dz1)).length) (yc2)] 24))).c2
  have l49 := ((B38.out.al (.cells #[.bool false, .slice (xa2) 2 (xc2), .slice (ya2) ((mmL n dz1 (vI n dz1)).length) (yc2)] 24))).c0
  have l50 := ((B38.out.al (.cells #[.bool false, .slice (xa2) 2 (xc2), .slice (ya2) ((mmL n dz1 (vI n dz1)).length) (yc2)] 24))).c1
  have l51 := ((B38.out.al (.cells #[.bool false, .slice (xa2) 2 (xc2), .slice (ya2) ((mmL n dz1 (vI n dz1)).length) (yc2)] 24))).c2
  go_wp2_with fail
  obtain ⟨wo52, hwo52⟩ : ∃ wo52, wo52 = (v4.alloc (.cells #[.bool false, .slice (xa2) 2 (xc2), .slice (ya2) ((mmL n dz1 (vI n dz1)).length) (yc2)] 24)) := ⟨_, rfl⟩
  rw [← hwo52]
  have z53 : v4.heap.size + 1 ≤ wo52.heap.size := by rw [hwo52]; simp only [World.size_alloc]; omega
  have B54 : Hid (Abx wo52 (w.heap.size) (.bool false) (.slice (some ⟨b1, o1, none⟩) 2 sc1) (.slice da1 dz1.length dc1)) := by rw [hwo52]; exact (B38.out.al (.cells #[.bool false, .slice (xa2) 2 (xc2), .slice (ya2) ((mmL n dz1 (vI n dz1)).length) (yc2)] 24))
  have B55 : Hid (Abx wo52 (v3.heap.size) (.bool false) (.slice (xa1) 2 (xc1)) (.slice (ya1) ((vI n dz1).length) (yc1))) := by rw [hwo52]; exact (B39.out.al (.cells #[.bool false, .slice (xa2) 2 (xc2), .slice (ya2) ((mmL n dz1 (vI n dz1)).length) (yc2)] 24))
  have B56 : Hid (Abx wo52 (v4.heap.size) (.bool false) (.slice (xa2) 2 (xc2)) (.slice (ya2) ((mmL n dz1 (vI n dz1)).length) (yc2))) := by rw [hwo52]; exact n45
  have L57 : Hid (MidC (v2.heap.size) (v3.heap.size) wo52 (xa1) ([(n : Int), (n : Int)]) (xc1)) := by rw [hwo52]; exact (L40.out.al (by omega) (.cells #[.bool false, .slice (xa2) 2 (xc2), .slice (ya2) ((mmL n dz1 (vI n dz1)).length) (yc2)] 24))
  have L58 : Hid (MidC (v2.heap.size) (v3.heap.size) wo52 (ya1) (vI n dz1) (yc1)) := by rw [hwo52]; exact (L41.out.al (by omega) (.cells #[.bool false, .slice (xa2) 2 (xc2), .slice (ya2) ((mmL n dz1 (vI n dz1)).length) (yc2)] 24))
  have L59 : Hid (MidC (wo30.heap.size) (v4.heap.size) wo52 (xa2) ([(n : Int), (n : Int)]) (xc2)) := by rw [hwo52]; exact (L43.out.al (by omega) (.cells #[.bool false, .slice (xa2) 2 (xc2), .slice (ya2) ((mmL n dz1 (vI n dz1)).length) (yc2)] 24))
  have L60 : Hid (MidC (wo30.heap.size) (v4.heap.size) wo52 (ya2) (mmL n dz1 (vI n dz1)) (yc2)) := by rw [hwo52]; exact (L44.out.al (by omega) (.cells #[.bool false, .slice (xa2) 2 (xc2), .slice (ya2) ((mmL n dz1 (vI n dz1)).length) (yc2)] 24))
  have hb61 : Hid (Below w.heap.size w wo52) := by rw [hwo52]; exact (hb42.out.alloc (by omega) (.cells #[.bool false, .slice (xa2) 2 (xc2), .slice (ya2) ((mmL n dz1 (vI n dz1)).length) (yc2)] 24))
  have zwo52 : w.heap.size ≤ wo52.heap.size := hb61.out.size
  clear hwo52 n45 l46 l47 l48 l49 l50 l51 hb42 B38 B39 L40 L41 L43 L44
  refine (minner_ok HNi n hn (xa1) (xc1) (ya1) (yc1) (vI n dz1) ((vI n dz1).length) rfl (vI_len n dz1) (some ⟨b1, o1, none⟩) sc1 da1 dc1 dz1 dz1.length rfl HL1.out _ (L57.out.is (by omega)) (L58.out.is (by omega)).1 (vI_64 n dz1) ((HI1.out.1.below hb61.out).mono hb61.out.size) ((HI1.out.2.1.below hb61.out).mono hb61.out.size).1 HI1.out.2.2).mono ?_
  rintro e v5 ⟨xa3, xc3, ya3, yc3, rfl, hX3, hY3, hB⟩
  have z62 : wo52.heap.size ≤ v5.heap.size := hB.size
  have B63 : Hid (Abx v5 (w.heap.size) (.bool false) (.slice (some ⟨b1, o1, none⟩) 2 sc1) (.slice da1 dz1.length dc1)) := B54.out.go hB
  have B64 : Hid (Abx v5 (v3.heap.size) (.bool false) (.slice (xa1) 2 (xc1)) (.slice (ya1) ((vI n dz1).length) (yc1))) := B55.out.go hB
  have B65 : Hid (Abx v5 (v4.heap.size) (.bool false) (.slice (xa2) 2 (xc2)) (.slice (ya2) ((mmL n dz1 (vI n dz1)).length) (yc2))) := B56.out.go hB
  have L66 : Hid (MidC (v2.heap.size) (v3.heap.size) v5 (xa1) ([(n : Int), (n : Int)]) (xc1)) := L57.out.go (by omega) hB
  have L67 : Hid (MidC (v2.heap.size) (v3.heap.size) v5 (ya1) (vI n dz1) (yc1)) := L58.out.go (by omega) hB
  have L68 : Hid (MidC (wo30.heap.size) (v4.heap.size) v5 (xa2) ([(n : Int), (n : Int)]) (xc2)) := L59.out.go (by omega) hB
  have L69 : Hid (MidC (wo30.heap.size) (v4.heap.size) v5 (ya2) (mmL n dz1 (vI n dz1)) (yc2)) := L60.out.go (by omega) hB
  have hb70 : Hid (Below w.heap.size w v5) := hb61.out.trans (hB.mono hb61.out.size)
  have L71 : Hid (MidC (wo52.heap.size) (v5.heap.size) v5 (xa3) ([(n : Int), (n : Int)]) (xc3)) := hX3.midc
  have L72 : Hid (MidC (wo52.heap.size) (v5.heap.size) v5 (ya3) (mmL n (vI n dz1) dz1) (yc3)) := hY3.midc
  clear hB hb61 B54 B55 B56 L57 L58 L59 L60 hX3 hY3
  have n73 := Abx.new v5 (.bool false) (.slice (xa3) 2 (xc3)) (.slice (ya3) ((mmL n (vI n dz1) dz1).length) (yc3))
  have l74 := ((B64.out.al (.cells #[.bool false, .slice (xa3) 2 (xc3), .slice (ya3) ((mmL n (vI n dz1) dz1).length) (yc3)] 24))).c0
  have l75 := ((B64.out.al (.cells #[.bool false, .slice (xa3) 2 (xc3), .slice (ya3) ((mmL n (vI n dz1) dz1).length) (yc3)] 24))).c1
  have l76 := ((B64.out.al (.cells #[.bool false, .slice (xa3) 2 (xc3), .slice (ya3) ((mmL n (vI n dz1) dz1).length) (yc3)] 24))).c2
  go_wp2_with fail
  obtain ⟨wo77, hwo77⟩ : ∃ wo77, wo77 = (v5.alloc (.cells #[.bool false, .slice (xa3) 2 (xc3), .slice (ya3) ((mmL n (vI n dz1) dz1).length) (yc3)] 24)) := ⟨_, rfl⟩
  rw [← hwo77]
  have z78 : v5.heap.size + 1 ≤ wo77.heap.size := by rw [hwo77]; simp only [World.size_alloc]; omega
  have B79 : Hid (Abx wo77 (w.heap.size) (.bool false) (.slice (some ⟨b1, o1, none⟩) 2 sc1) (.slice da1 dz1.length dc1)) := by rw [hwo77]; exact (B63.out.al (.cells #[.bool false, .slice (xa3) 2 (xc3), .slice (ya3) ((mmL n (vI n dz1) dz1).length) (yc3)] 24))
  have B80 : Hid (Abx wo77 (v3.heap.size) (.bool false) (.slice (xa1) 2 (xc1)) (.slice (ya1) ((vI n dz1).length) (yc1))) := by rw [hwo77]; exact (B64.out.al (.cells #[.bool false, .slice (xa3) 2 (xc3), .slice (ya3) ((mmL n (vI n dz1) dz1).length) (yc3)] 24))
  have B81 : Hid (Abx wo77 (v4.heap.size) (.bool false) (.slice (xa2) 2 (xc2)) (.slice (ya2) ((mmL n dz1 (vI n dz1)).length) (yc2))) := by rw [hwo77]; exact (B65.out.al (.cells #[.bool false, .slice (xa3) 2 (xc3), .slice (ya3) ((mmL n (vI n dz1) dz1).length) (yc3)] 24))
  have B82 : Hid (Abx wo77 (v5.heap.size) (.bool false) (.slice (xa3) 2 (xc3)) (.slice (ya3) ((mmL n (vI n dz1) dz1).length) (yc3))) := by rw [hwo77]; exact n73
  have L83 : Hid (MidC (v2.heap.size) (v3.heap.size) wo77 (xa1) ([(n : Int), (n : Int)]) (xc1)) := by rw [hwo77]; exact (L66.out.al (by omega) (.cells #[.bool false, .slice (xa3) 2 (xc3), .slice (ya3) ((mmL n (vI n dz1) dz1).length) (yc3)] 24))
  have L84 : Hid (MidC (v2.heap.size) (v3.heap.size) wo77 (ya1) (vI n dz1) (yc1)) := by rw [hwo77]; exact (L67.out.al (by omega) (.cells #[.bool false, .slice (xa3) 2 (xc3), .slice (ya3) ((mmL n (vI n dz1) dz1).length) (yc3)] 24))
  have L85 : Hid (MidC (wo30.heap.size) (v4.heap.size) wo77 (xa2) ([(n : Int), (n : Int)]) (xc2)) := by rw [hwo77]; exact (L68.out.al (by omega) (.cells #[.bool false, .slice (xa3) 2 (xc3), .slice (ya3) ((mmL n (vI n dz1) dz1).length) (yc3)] 24))
  have L86 : Hid (MidC (wo30.heap.size) (v4.heap.size) wo77 (ya2) (mmL n dz1 (vI n dz1)) (yc2)) := by rw [hwo77]; exact (L69.out.al (by omega) (.cells #[.bool false, .slice (xa3) 2 (xc3), .slice (ya3) ((mmL n (vI n dz1) dz1).length) (yc3)] 24))
  have L87 : Hid (MidC (wo52.heap.size) (v5.heap.size) wo77 (xa3) ([(n : Int), (n : Int)]) (xc3)) := by rw [hwo77]; exact (L71.out.al (by omega) (.cells #[.bool false, .slice (xa3) 2 (xc3), .slice (ya3) ((mmL n (vI n dz1) dz1).length) (yc3)] 24))
  have L88 : Hid (MidC (wo52.heap.size) (v5.heap.size) wo77 (ya3) (mmL n (vI n dz1) dz1) (yc3)) := by rw [hwo77]; exact (L72.out.al (by omega) (.cells #[.bool false, .slice (xa3) 2 (xc3), .slice (ya3) ((mmL n (vI n dz1) dz1).length) (yc3)] 24))
  have hb89 : Hid (Below w.heap.size w wo77) := by rw [hwo77]; exact (hb70.out.alloc (by omega) (.cells #[.bool false, .slice (xa3) 2 (xc3), .slice (ya3) ((mmL n (vI n dz1) dz1).length) (yc3)] 24))
  have zwo77 : w.heap.size ≤ wo77.heap.size := hb89.out.size
  clear hwo77 n73 l74 l75 l76 hb70 B63 B64 B65 L66 L67 L68 L69 L71 L72
  refine (minv_v n hn (xa1) (xc1) (ya1) (yc1) (vI n dz1) ((vI n dz1).length) rfl (vI_len n dz1) _ (L83.out.is (by omega)).1 (L84.out.is (by omega)).1 (vI_odd HE.out)).mono ?_
  rintro e v6 ⟨xa4, xc4, ya4, yc4, rfl, hX4, hY4, hB⟩
  have z90 : wo77.heap.size ≤ v6.heap.size := hB.size
  have B91 : Hid (Abx v6 (w.heap.size) (.bool false) (.slice (some ⟨b1, o1, none⟩) 2 sc1) (.slice da1 dz1.length dc1)) := B79.out.go hB
  have B92 : Hid (Abx v6 (v3.heap.size) (.bool false) (.slice (xa1) 2 (xc1)) (.slice (ya1) ((vI n dz1).length) (yc1))) := B80.out.go hB
  have B93 : Hid (Abx v6 (v4.heap.size) (.bool false) (.slice (xa2) 2 (xc2)) (.slice (ya2) ((mmL n dz1 (vI n dz1)).length) (yc2))) := B81.out.go hB
  have B94 : Hid (Abx v6 (v5.heap.size) (.bool false) (.slice (xa3) 2 (xc3)) (.slice (ya3) ((mmL n (vI n dz1) dz1).length) (yc3))) := B82.out.go hB
  have L95 : Hid (MidC (v2.heap.size) (v3.heap.size) v6 (xa1) ([(n : Int), (n : Int)]) (xc1)) := L83.out.go (by omega) hB
  have L96 : Hid (MidC (v2.heap.size) (v3.heap.size) v6 (ya1) (vI n dz1) (yc1)) := L84.out.go (by omega) hB
  have L97 : Hid (MidC (wo30.heap.size) (v4.heap.size) v6 (xa2) ([(n : Int), (n : Int)]) (xc2)) := L85.out.go (by omega) hB
  have L98 : Hid (MidC (wo30.heap.size) (v4.heap.size) v6 (ya2) (mmL n dz1 (vI n dz1)) (yc2)) := L86.out.go (by omega) hB
  have L99 : Hid (MidC (wo52.heap.size) (v5.heap.size) v6 (xa3) ([(n : Int), (n : Int)]) (xc3)) := L87.out.go (by omega) hB
  have L100 : Hid (MidC (wo52.heap.size) (v5.heap.size) v6 (ya3) (mmL n (vI n dz1) dz1) (yc3)) := L88.out.go (by omega) hB
  have hb101 : Hid (Below w.heap.size w v6) := hb89.out.trans (hB.mono hb89.out.size)
  have L102 : Hid (MidC (wo77.heap.size) (v6.heap.size) v6 (xa4) ([(n : Int), (n : Int)]) (xc4)) := hX4.midc
  have L103 : Hid (MidC (wo77.heap.size) (v6.heap.size) v6 (ya4) (vI n (vI n dz1)) (yc4)) := hY4.midc
  clear hB hb89 B79 B80 B81 B82 L83 L84 L85 L86 L87 L88 hX4 hY4
  have n104 := Abx.new v6 (.bool false) (.slice (xa4) 2 (xc4)) (.slice (ya4) ((vI n (vI n dz1)).length) (yc4))
  have l105 := (n104).c0
  have l106 := (n104).c1
  have l107 := (n104).c2
  have l108 := ((B91.out.al (.cells #[.bool false, .slice (xa4) 2 (xc4), .slice (ya4) ((vI n (vI n dz1)).length) (yc4)] 24))).c0
  have l109 := ((B91.out.al (.cells #[.bool false, .slice (xa4) 2 (xc4), .slice (ya4) ((vI n (vI n dz1)).length) (yc4)] 24))).c1
  have l110 := ((B91.out.al (.cells #[.bool false, .slice (xa4) 2 (xc4), .slice (ya4) ((vI n (vI n dz1)).length) (yc4)] 24))).c2
  go_wp2_with fail
  obtain ⟨wo111, hwo111⟩ : ∃ wo111, wo111 = (v6.alloc (.cells #[.bool false, .slice (xa4) 2 (xc4), .slice (ya4) ((vI n (vI n dz1)).length) (yc4)] 24)) := ⟨_, rfl⟩
  rw [← hwo111]
  have z112 : v6.heap.size + 1 ≤ wo111.heap.size := by rw [hwo111]; simp only [World.size_alloc]; omega
  have B113 : Hid (Abx wo111 (w.heap.size) (.bool false) (.slice (some ⟨b1, o1, none⟩) 2 sc1) (.slice da1 dz1.length dc1)) := by rw [hwo111]; exact (B91.out.al (.cells #[.bool false, .slice (xa4) 2 (xc4), .slice (ya4) ((vI n (vI n dz1)).length) (yc4)] 24))
  have B114 : Hid (Abx wo111 (v3.heap.size) (.bool false) (.slice (xa1) 2 (xc1)) (.slice (ya1) ((vI n dz1).length) (yc1))) := by rw [hwo111]; exact (B92.out.al (.cells #[.bool false, .slice (xa4) 2 (xc4), .slice (ya4) ((vI n (vI n dz1)).length) (yc4)] 24))
  have B115 : Hid (Abx wo111 (v4.heap.size) (.bool false) (.slice (xa2) 2 (xc2)) (.slice (ya2) ((mmL n dz1 (vI n dz1)).length) (yc2))) := by rw [hwo111]; exact (B93.out.al (.cells #[.bool false, .slice (xa4) 2 (xc4), .slice (ya4) ((vI n (vI n dz1)).length) (yc4)] 24))
  have B116 : Hid (Abx wo111 (v5.heap.size) (.bool false) (.slice (xa3) 2 (xc3)) (.slice (ya3) ((mmL n (vI n dz1) dz1).length) (yc3))) := by rw [hwo111]; exact (B94.out.al (.cells #[.bool false, .slice (xa4) 2 (xc4), .slice (ya4) ((vI n (vI n dz1)).length) (yc4)] 24))
  have B117 : Hid (Abx wo111 (v6.heap.size) (.bool false) (.slice (xa4) 2 (xc4)) (.slice (ya4) ((vI n (vI n dz1)).length) (yc4))) := by rw [hwo111]; exact n104
  have L118 : Hid (MidC (v2.heap.size) (v3.heap.size) wo111 (xa1) ([(n : Int), (n : Int)]) (xc1)) := by rw [hwo111]; exact (L95.out.al (by omega) (.cells #[.bool false, .slice (xa4) 2 (xc4), .slice (ya4) ((vI n (vI n dz1)).length) (yc4)] 24))
  have L119 : Hid (MidC (v2.heap.size) (v3.heap.size) wo111 (ya1) (vI n dz1) (yc1)) := by rw [hwo111]; exact (L96.out.al (by omega) (.cells #[.bool false, .slice (xa4) 2 (xc4), .slice (ya4) ((vI n (vI n dz1)).length) (yc4)] 24))
  have L120 : Hid (MidC (wo30.heap.size) (v4.heap.size) wo111 (xa2) ([(n : Int), (n : Int)]) (xc2)) := by rw [hwo111]; exact (L97.out.al (by omega) (.cells #[.bool false, .slice (xa4) 2 (xc4), .slice (ya4) ((vI n (vI n dz1)).length) (yc4)] 24))
  have L121 : Hid (MidC (wo30.heap.size) (v4.heap.size) wo111 (ya2) (mmL n dz1 (vI n dz1)) (yc2)) := by rw [hwo111]; exact (L98.out.al (by omega) (.cells #[.bool false, .slice (xa4) 2 (xc4), .slice (ya4) ((vI n (vI n dz1)).length) (yc4)] 24))
  have L122 : Hid (MidC (wo52.heap.size) (v5.heap.size) wo111 (xa3) ([(n : Int), (n : Int)]) (xc3)) := by rw [hwo111]; exact (L99.out.al (by omega) (.cells #[.bool false, .slice (xa4) 2 (xc4), .slice (ya4) ((vI n (vI n dz1)).length) (yc4)] 24))
  have L123 : Hid (MidC (wo52.heap.size) (v5.heap.size) wo111 (ya3) (mmL n (vI n dz1) dz1) (yc3)) := by rw [hwo111]; exact (L100.out.al (by omega) (.cells #[.bool false, .slice (xa4) 2 (xc4), .slice (ya4) ((vI n (vI n dz1)).length) (yc4)] 24))
  have L124 : Hid (MidC (wo77.heap.size) (v6.heap.size) wo111 (xa4) ([(n : Int), (n : Int)]) (xc4)) := by rw [hwo111]; exact (L102.out.al (by omega) (.cells #[.bool false, .slice (xa4) 2 (xc4), .slice (ya4) ((vI n (vI n dz1)).length) (yc4)] 24))
  have L125 : Hid (MidC (wo77.heap.size) (v6.heap.size) wo111 (ya4) (vI n (vI n dz1)) (yc4)) := by rw [hwo111]; exact (L103.out.al (by omega) (.cells #[.bool false, .slice (xa4) 2 (xc4), .slice (ya4) ((vI n (vI n dz1)).length) (yc4)] 24))
  have hb126 : Hid (Below w.heap.size w wo111) := by rw [hwo111]; exact (hb101.out.alloc (by omega) (.cells #[.bool false, .slice (xa4) 2 (xc4), .slice (ya4) ((vI n (vI n dz1)).length) (yc4)] 24))
  have zwo111 : w.heap.size ≤ wo111.heap.size := hb126.out.size
  clear hwo111 n104 l105 l106 l107 l108 l109 l110 hb101 B91 B92 B93 B94 L95 L96 L97 L98 L99 L100 L102 L103
  refine (alike_eq false (xa4) (xc4) [(n : Int), (n : Int)] (ya4) (yc4) (vI n (vI n dz1)) (some ⟨b1, o1, none⟩) sc1 [(n : Int), (n : Int)] da1 dc1 dz1 rfl (vI_back HL1.out HI1.out.2.2 HE.out).symm (by simp) (short14 hn (vI_len n (vI n dz1))) _ (L124.out.is (by omega)) (L125.out.is (by omega)).1 ((HI1.out.1.below hb126.out).mono hb126.out.size) ((HI1.out.2.1.below hb126.out).mono hb126.out.size).1).mono ?_
  rintro e v7 ⟨rfl, hB⟩
  have z127 : wo111.heap.size ≤ v7.heap.size := hB.size
  have B128 : Hid (Abx v7 (w.heap.size) (.bool false) (.slice (some ⟨b1, o1, none⟩) 2 sc1) (.slice da1 dz1.length dc1)) := B113.out.go hB
  have B129 : Hid (Abx v7 (v3.heap.size) (.bool false) (.slice (xa1) 2 (xc1)) (.slice (ya1) ((vI n dz1).length) (yc1))) := B114.out.go hB
  have B130 : Hid (Abx v7 (v4.heap.size) (.bool false) (.slice (xa2) 2 (xc2)) (.slice (ya2) ((mmL n dz1 (vI n dz1)).length) (yc2))) := B115.out.go hB
  have B131 : Hid (Abx v7 (v5.heap.size) (.bool false) (.slice (xa3) 2 (xc3)) (.slice (ya3) ((mmL n (vI n dz1) dz1).length) (yc3))) := B116.out.go hB
  have B132 : Hid (Abx v7 (v6.heap.size) (.bool false) (.slice (xa4) 2 (xc4)) (.slice (ya4) ((vI n (vI n dz1)).length) (yc4))) := B117.out.go hB
  have L133 : Hid (MidC (v2.heap.size) (v3.heap.size) v7 (xa1) ([(n : Int), (n : Int)]) (xc1)) := L118.out.go (by omega) hB
  have L134 : Hid (MidC (v2.heap.size) (v3.heap.size) v7 (ya1) (vI n dz1) (yc1)) := L119.out.go (by omega) hB
  have L135 : Hid (MidC (wo30.heap.size) (v4.heap.size) v7 (xa2) ([(n : Int), (n : Int)]) (xc2)) := L120.out.go (by omega) hB
  have L136 : Hid (MidC (wo30.heap.size) (v4.heap.size) v7 (ya2) (mmL n dz1 (vI n dz1)) (yc2)) := L121.out.go (by omega) hB
  have L137 : Hid (MidC (wo52.heap.size) (v5.heap.size) v7 (xa3) ([(n : Int), (n : Int)]) (xc3)) := L122.out.go (by omega) hB
  have L138 : Hid (MidC (wo52.heap.size) (v5.heap.size) v7 (ya3) (mmL n (vI n dz1) dz1) (yc3)) := L123.out.go (by omega) hB
  have L139 : Hid (MidC (wo77.heap.size) (v6.heap.size) v7 (xa4) ([(n : Int), (n : Int)]) (xc4)) := L124.out.go (by omega) hB
  have L140 : Hid (MidC (wo77.heap.size) (v6.heap.size) v7 (ya4) (vI n (vI n dz1)) (yc4)) := L125.out.go (by omega) hB
  have hb141 : Hid (Below w.heap.size w v7) := hb126.out.trans (hB.mono hb126.out.size)
  clear hB hb126 B113 B114 B115 B116 B117 L118 L119 L120 L121 L122 L123 L124 L125
  go_wp2_with fail
  obtain ⟨hqr11, hsr11⟩ : b1 < w.heap.size ∧ v7.cell? ⟨b1, o1, none⟩ = some (.int .i64 (n : Int)) := shp14 HI1.out.1 hb141.out
  have hb0r1 : Below v7.heap.size v7 v7.drew := (Below.refl _ v7).drew
  refine anyC_begin (fun w' => w'.cell? ⟨v4.heap.size, 0, none⟩ = some (.bool false) ∧ w'.cell? ⟨v4.heap.size, 1, none⟩ = some (.slice (xa2) 2 (xc2)) ∧ w'.cell? ⟨v4.heap.size, 2, none⟩ = some (.slice (ya2) ((mmL n dz1 (vI n dz1)).length) (yc2)) ∧ w'.cell? ⟨w.heap.size, 0, none⟩ = some (.bool false) ∧ w'.cell? ⟨w.heap.size, 1, none⟩ = some (.slice (some ⟨b1, o1, none⟩) 2 sc1) ∧ w'.cell? ⟨w.heap.size, 2, none⟩ = some (.slice da1 dz1.length dc1) ∧ w'.cell? ⟨b1, o1, none⟩ = some (.int .i64 (n : Int))) 7 #[false, false, false, false, false, false, false] (by kernel_rfl) rfl rfl ?_
  refine anyC_take 0 61 ?rv0 #[true, false, false, false, false, false, false] rfl rfl rfl (by kernel_rfl) (by kernel_rfl) (by kernel_rfl) (fun _ _ _ h => h) ?ry0 (⟨(B130.out.go hb0r1).c0, (B130.out.go hb0r1).c1, (B130.out.go hb0r1).c2, (B128.out.go hb0r1).c0, (B128.out.go hb0r1).c1, (B128.out.go hb0r1).c2, (hb0r1.cell (p := ⟨b1, o1, none⟩) (Nat.lt_of_lt_of_le hqr11 hb141.out.size)).trans hsr11⟩) ?rm0
  case ry0 => first | exact Or.inl ⟨by rfl, by intro w' hw'; (try dsimp only at hw'); go_simp; first | done | rfl⟩
  case rm0 =>
  simp only [Act.put, List.setIfInBounds_toArray, List.set_cons_zero, List.set_cons_succ]
  refine anyC_put 1 62 ?rv1 #[true, true, false, false, false, false, false] rfl rfl rfl (by kernel_rfl) (by kernel_rfl) (by kernel_rfl) (fun _ _ _ h => h) ?ry1 (⟨(B130.out.go hb0r1).c0, (B130.out.go hb0r1).c1, (B130.out.go hb0r1).c2, (B128.out.go hb0r1).c0, (B128.out.go hb0r1).c1, (B128.out.go hb0r1).c2, (hb0r1.cell (p := ⟨b1, o1, none⟩) (Nat.lt_of_lt_of_le hqr11 hb141.out.size)).trans hsr11⟩) ?rm1
  case ry1 => first | exact Or.inl ⟨by rfl, by intro w'; go_simp; first | done | rfl⟩
  case rm1 =>
  simp only [Act.put, List.setIfInBounds_toArray, List.set_cons_zero, List.set_cons_succ]
  refine anyC_take 2 63 ?rv2 #[true, true, true, false, false, false, false] rfl rfl rfl (by kernel_rfl) (by kernel_rfl) (by kernel_rfl) (fun _ _ _ h => h) ?ry2 (⟨(B130.out.go hb0r1).c0, (B130.out.go hb0r1).c1, (B130.out.go hb0r1).c2, (B128.out.go hb0r1).c0, (B128.out.go hb0r1).c1, (B128.out.go hb0r1).c2, (hb0r1.cell (p := ⟨b1, o1, none⟩) (Nat.lt_of_lt_of_le hqr11 hb141.out.size)).trans hsr11⟩) ?rm2
  case ry2 => first | exact Or.inl ⟨by rfl, by intro w' hw'; (try dsimp only at hw'); go_simp; first | done | rfl⟩
  case rm2 =>
  simp only [Act.put, List.setIfInBounds_toArray, List.set_cons_zero, List.set_cons_succ]
  refine anyC_put 3 64 ?rv3 #[true, true, true, true, false, false, false] rfl rfl rfl (by kernel_rfl) (by kernel_rfl) (by kernel_rfl) (fun _ _ _ h => h) ?ry3 (⟨(B130.out.go hb0r1).c0, (B130.out.go hb0r1).c1, (B130.out.go hb0r1).c2, (B128.out.go hb0r1).c0, (B128.out.go hb0r1).c1, (B128.out.go hb0r1).c2, (hb0r1.cell (p := ⟨b1, o1, none⟩) (Nat.lt_of_lt_of_le hqr11 hb141.out.size)).trans hsr11⟩) ?rm3
  case ry3 => first | exact Or.inl ⟨by rfl, by intro w'; go_simp; first | done | rfl⟩
  case rm3 =>
  simp only [Act.put, List.setIfInBounds_toArray, List.set_cons_zero, List.set_cons_succ]
  refine anyC_take 4 65 ?rv4 #[true, true, true, true, true, false, false] rfl rfl rfl (by kernel_rfl) (by kernel_rfl) (by kernel_rfl) (fun _ _ _ h => h) ?ry4 (⟨(B130.out.go hb0r1).c0, (B130.out.go hb0r1).c1, (B130.out.go hb0r1).c2, (B128.out.go hb0r1).c0, (B128.out.go hb0r1).c1, (B128.out.go hb0r1).c2, (hb0r1.cell (p := ⟨b1, o1, none⟩) (Nat.lt_of_lt_of_le hqr11 hb141.out.size)).trans hsr11⟩) ?rm4
  case ry4 => first | exact Or.inl ⟨by rfl, by intro w' hw'; (try dsimp only at hw'); go_simp; first | done | rfl⟩
  case rm4 =>
  simp only [Act.put, List.setIfInBounds_toArray, List.set_cons_zero, List.set_cons_succ]
  refine anyC_one 5 #[true, true, true, true, true, true, false] (by kernel_rfl) rfl rfl (fun K hK => ?_)
  go_simp
  go_wp2_with (go_at_call 11; refine (diag_yes n hn 1 (xa2) (xc2) (ya2) (yc2) (mmL n dz1 (vI n dz1)) (mmL n dz1 (vI n dz1)).length rfl (vI_r HE.out) _ ((L135.out.go (by omega) hb0r1).is (by have := hb0r1.size; omega)).1 ((L136.out.go (by omega) hb0r1).is (by have := hb0r1.size; omega)).1).mono ?_; rintro e y1r1 ⟨rfl, hBy1r1⟩)
  have hby1r1 : Below v7.heap.size v7 y1r1 := hb0r1.trans (hBy1r1.mono hb0r1.size)
  refine hK.out _ _ (⟨(B130.out.go hby1r1).c0, (B130.out.go hby1r1).c1, (B130.out.go hby1r1).c2, (B128.out.go hby1r1).c0, (B128.out.go hby1r1).c1, (B128.out.go hby1r1).c2, (hby1r1.cell (p := ⟨b1, o1, none⟩) (Nat.lt_of_lt_of_le hqr11 hb141.out.size)).trans hsr11⟩) ?_
  clear hK K
  refine anyC_put 6 15 ?rv6 #[true, true, true, true, true, true, true] rfl rfl rfl (by kernel_rfl) (by kernel_rfl) (by kernel_rfl) (fun _ _ _ h => h) ?ry6 (⟨(B130.out.go hby1r1).c0, (B130.out.go hby1r1).c1, (B130.out.go hby1r1).c2, (B128.out.go hby1r1).c0, (B128.out.go hby1r1).c1, (B128.out.go hby1r1).c2, (hby1r1.cell (p := ⟨b1, o1, none⟩) (Nat.lt_of_lt_of_le hqr11 hb141.out.size)).trans hsr11⟩) ?rm6
  case ry6 => first | exact Or.inl ⟨by rfl, by intro w'; go_simp; first | done | rfl⟩
  case rm6 =>
  simp only [Act.put, List.setIfInBounds_toArray, List.set_cons_zero, List.set_cons_succ]
  refine anyC_done (by kernel_rfl) ?_
  have hB := hby1r1
  have z142 : v7.heap.size ≤ y1r1.heap.size := hB.size
  have B143 : Hid (Abx y1r1 (w.heap.size) (.bool false) (.slice (some ⟨b1, o1, none⟩) 2 sc1) (.slice da1 dz1.length dc1)) := B128.out.go hB
  have B144 : Hid (Abx y1r1 (v3.heap.size) (.bool false) (.slice (xa1) 2 (xc1)) (.slice (ya1) ((vI n dz1).length) (yc1))) := B129.out.go hB
  have B145 : Hid (Abx y1r1 (v4.heap.size) (.bool false) (.slice (xa2) 2 (xc2)) (.slice (ya2) ((mmL n dz1 (vI n dz1)).length) (yc2))) := B130.out.go hB
  have B146 : Hid (Abx y1r1 (v5.heap.size) (.bool false) (.slice (xa3) 2 (xc3)) (.slice (ya3) ((mmL n (vI n dz1) dz1).length) (yc3))) := B131.out.go hB
  have B147 : Hid (Abx y1r1 (v6.heap.size) (.bool false) (.slice (xa4) 2 (xc4)) (.slice (ya4) ((vI n (vI n dz1)).length) (yc4))) := B132.out.go hB
  have L148 : Hid (MidC (v2.heap.size) (v3.heap.size) y1r1 (xa1) ([(n : Int), (n : Int)]) (xc1)) := L133.out.go (by omega) hB
  have L149 : Hid (MidC (v2.heap.size) (v3.heap.size) y1r1 (ya1) (vI n dz1) (yc1)) := L134.out.go (by omega) hB
  have L150 : Hid (MidC (wo30.heap.size) (v4.heap.size) y1r1 (xa2) ([(n : Int), (n : Int)]) (xc2)) := L135.out.go (by omega) hB
  have L151 : Hid (MidC (wo30.heap.size) (v4.heap.size) y1r1 (ya2) (mmL n dz1 (vI n dz1)) (yc2)) := L136.out.go (by omega) hB
  have L152 : Hid (MidC (wo52.heap.size) (v5.heap.size) y1r1 (xa3) ([(n : Int), (n : Int)]) (xc3)) := L137.out.go (by omega) hB
  have L153 : Hid (MidC (wo52.heap.size) (v5.heap.size) y1r1 (ya3) (mmL n (vI n dz1) dz1) (yc3)) := L138.out.go (by omega) hB
  have L154 : Hid (MidC (wo77.heap.size) (v6.heap.size) y1r1 (xa4) ([(n : Int), (n : Int)]) (xc4)) := L139.out.go (by omega) hB
  have L155 : Hid (MidC (wo77.heap.size) (v6.heap.size) y1r1 (ya4) (vI n (vI n dz1)) (yc4)) := L140.out.go (by omega) hB
  have hb156 : Hid (Below w.heap.size w y1r1) := hb141.out.trans (hB.mono hb141.out.size)
  clear hB hb141 B128 B129 B130 B131 B132 L133 L134 L135 L136 L137 L138 L139 L140
  go_wp2_with fail
  obtain ⟨hqr21, hsr21⟩ : b1 < w.heap.size ∧ y1r1.cell? ⟨b1, o1, none⟩ = some (.int .i64 (n : Int)) := shp14 HI1.out.1 hb156.out
  have hb0r2 : Below y1r1.heap.size y1r1 y1r1.drew := (Below.refl _ y1r1).drew
  refine anyC_begin (fun w' => w'.cell? ⟨v5.heap.size, 0, none⟩ = some (.bool false) ∧ w'.cell? ⟨v5.heap.size, 1, none⟩ = some (.slice (xa3) 2 (xc3)) ∧ w'.cell? ⟨v5.heap.size, 2, none⟩ = some (.slice (ya3) ((mmL n (vI n dz1) dz1).length) (yc3)) ∧ w'.cell? ⟨w.heap.size, 0, none⟩ = some (.bool false) ∧ w'.cell? ⟨w.heap.size, 1, none⟩ = some (.slice (some ⟨b1, o1, none⟩) 2 sc1) ∧ w'.cell? ⟨w.heap.size, 2, none⟩ = some (.slice da1 dz1.length dc1) ∧ w'.cell? ⟨b1, o1, none⟩ = some (.int .i64 (n : Int))) 7 #[false, false, false, false, false, false, false] (by kernel_rfl) rfl rfl ?_
  refine anyC_take 0 67 ?rv7 #[true, false, false, false, false, false, false] rfl rfl rfl (by kernel_rfl) (by kernel_rfl) (by kernel_rfl) (fun _ _ _ h => h) ?ry7 (⟨(B146.out.go hb0r2).c0, (B146.out.go hb0r2).c1, (B146.out.go hb0r2).c2, (B143.out.go hb0r2).c0, (B143.out.go hb0r2).c1, (B143.out.go hb0r2).c2, (hb0r2.cell (p := ⟨b1, o1, none⟩) (Nat.lt_of_lt_of_le hqr21 hb156.out.size)).trans hsr21⟩) ?rm7
  case ry7 => first | exact Or.inl ⟨by rfl, by intro w' hw'; (try dsimp only at hw'); go_simp; first | done | rfl⟩
  case rm7 =>
  simp only [Act.put, List.setIfInBounds_toArray, List.set_cons_zero, List.set_cons_succ]
  refine anyC_put 1 68 ?rv8 #[true, true, false, false, false, false, false] rfl rfl rfl (by kernel_rfl) (by kernel_rfl) (by kernel_rfl) (fun _ _ _ h => h) ?ry8 (⟨(B146.out.go hb0r2).c0, (B146.out.go hb0r2).c1, (B146.out.go hb0r2).c2, (B143.out.go hb0r2).c0, (B143.out.go hb0r2).c1, (B143.out.go hb0r2).c2, (hb0r2.cell (p := ⟨b1, o1, none⟩) (Nat.lt_of_lt_of_le hqr21 hb156.out.size)).trans hsr21⟩) ?rm8
  case ry8 => first | exact Or.inl ⟨by rfl, by intro w'; go_simp; first | done | rfl⟩
  case rm8 =>
  simp only [Act.put, List.setIfInBounds_toArray, List.set_cons_zero, List.set_cons_succ]
  refine anyC_take 2 69 ?rv9 #[true, true, true, false, false, false, false] rfl rfl rfl (by kernel_rfl) (by kernel_rfl) (by kernel_rfl) (fun _ _ _ h => h) ?ry9 (⟨(B146.out.go hb0r2).c0, (B146.out.go hb0r2).c1, (B146.out.go hb0r2).c2, (B143.out.go hb0r2).c0, (B143.out.go hb0r2).c1, (B143.out.go hb0r2).c2, (hb0r2.cell (p := ⟨b1, o1, none⟩) (Nat.lt_of_lt_of_le hqr21 hb156.out.size)).trans hsr21⟩) ?rm9
  case ry9 => first | exact Or.inl ⟨by rfl, by intro w' hw'; (try dsimp only at hw'); go_simp; first | done | rfl⟩
  case rm9 =>
  simp only [Act.put, List.setIfInBounds_toArray, List.set_cons_zero, List.set_cons_succ]
  refine anyC_put 3 70 ?rv10 #[true, true, true, true, false, false, false] rfl rfl rfl (by kernel_rfl) (by kernel_rfl) (by kernel_rfl) (fun _ _ _ h => h) ?ry10 (⟨(B146.out.go hb0r2).c0, (B146.out.go hb0r2).c1, (B146.out.go hb0r2).c2, (B143.out.go hb0r2).c0, (B143.out.go hb0r2).c1, (B143.out.go hb0r2).c2, (hb0r2.cell (p := ⟨b1, o1, none⟩) (Nat.lt_of_lt_of_le hqr21 hb156.out.size)).trans hsr21⟩) ?rm10
  case ry10 => first | exact Or.inl ⟨by rfl, by intro w'; go_simp; first | done | rfl⟩
  case rm10 =>
  simp only [Act.put, List.setIfInBounds_toArray, List.set_cons_zero, List.set_cons_succ]
  refine anyC_take 4 71 ?rv11 #[true, true, true, true, true, false, false] rfl rfl rfl (by kernel_rfl) (by kernel_rfl) (by kernel_rfl) (fun _ _ _ h => h) ?ry11 (⟨(B146.out.go hb0r2).c0, (B146.out.go hb0r2).c1, (B146.out.go hb0r2).c2, (B143.out.go hb0r2).c0, (B143.out.go hb0r2).c1, (B143.out.go hb0r2).c2, (hb0r2.cell (p := ⟨b1, o1, none⟩) (Nat.lt_of_lt_of_le hqr21 hb156.out.size)).trans hsr21⟩) ?rm11
  case ry11 => first | exact Or.inl ⟨by rfl, by intro w' hw'; (try dsimp only at hw'); go_simp; first | done | rfl⟩
  case rm11 =>
  simp only [Act.put, List.setIfInBounds_toArray, List.set_cons_zero, List.set_cons_succ]
  refine anyC_one 5 #[true, true, true, true, true, true, false] (by kernel_rfl) rfl rfl (fun K hK => ?_)
  go_simp
  go_wp2_with (go_at_call 11; refine (diag_yes n hn 1 (xa3) (xc3) (ya3) (yc3) (mmL n (vI n dz1) dz1) (mmL n (vI n dz1) dz1).length rfl (vI_l HE.out) _ ((L152.out.go (by omega) hb0r2).is (by have := hb0r2.size; omega)).1 ((L153.out.go (by omega) hb0r2).is (by have := hb0r2.size; omega)).1).mono ?_; rintro e y1r2 ⟨rfl, hBy1r2⟩)
  have hby1r2 : Below y1r1.heap.size y1r1 y1r2 := hb0r2.trans (hBy1r2.mono hb0r2.size)
  refine hK.out _ _ (⟨(B146.out.go hby1r2).c0, (B146.out.go hby1r2).c1, (B146.out.go hby1r2).c2, (B143.out.go hby1r2).c0, (B143.out.go hby1r2).c1, (B143.out.go hby1r2).c2, (hby1r2.cell (p := ⟨b1, o1, none⟩) (Nat.lt_of_lt_of_le hqr21 hb156.out.size)).trans hsr21⟩) ?_
  clear hK K
  refine anyC_put 6 16 ?rv13 #[true, true, true, true, true, true, true] rfl rfl rfl (by kernel_rfl) (by kernel_rfl) (by kernel_rfl) (fun _ _ _ h => h) ?ry13 (⟨(B146.out.go hby1r2).c0, (B146.out.go hby1r2).c1, (B146.out.go hby1r2).c2, (B143.out.go hby1r2).c0, (B143.out.go hby1r2).c1, (B143.out.go hby1r2).c2, (hby1r2.cell (p := ⟨b1, o1, none⟩) (Nat.lt_of_lt_of_le hqr21 hb156.out.size)).trans hsr21⟩) ?rm13
  case ry13 => first | exact Or.inl ⟨by rfl, by intro w'; go_simp; first | done | rfl⟩
  case rm13 =>
  simp only [Act.put, List.setIfInBounds_toArray, List.set_cons_zero, List.set_cons_succ]
  refine anyC_done (by kernel_rfl) ?_
  have hB := hby1r2
  have z157 : y1r1.heap.size ≤ y1r2.heap.size := hB.size
  have B158 : Hid (Abx y1r2 (w.heap.size) (.bool false) (.slice (some ⟨b1, o1, none⟩) 2 sc1) (.slice da1 dz1.length dc1)) := B143.out.go hB
  have B159 : Hid (Abx y1r2 (v3.heap.size) (.bool false) (.slice (xa1) 2 (xc1)) (.slice (ya1) ((vI n dz1).length) (yc1))) := B144.out.go hB
  have B160 : Hid (Abx y1r2 (v4.heap.size) (.bool false) (.slice (xa2) 2 (xc2)) (.slice (ya2) ((mmL n dz1 (vI n dz1)).length) (yc2))) := B145.out.go hB
  have B161 : Hid (Abx y1r2 (v5.heap.size) (.bool false) (.slice (xa3) 2 (xc3)) (.slice (ya3) ((mmL n (vI n dz1) dz1).length) (yc3))) := B146.out.go hB
  have B162 : Hid (Abx y1r2 (v6.heap.size) (.bool false) (.slice (xa4) 2 (xc4)) (.slice (ya4) ((vI n (vI n dz1)).length) (yc4))) := B147.out.go hB
  have L163 : Hid (MidC (v2.heap.size) (v3.heap.size) y1r2 (xa1) ([(n : Int), (n : Int)]) (xc1)) := L148.out.go (by omega) hB
  have L164 : Hid (MidC (v2.heap.size) (v3.heap.size) y1r2 (ya1) (vI n dz1) (yc1)) := L149.out.go (by omega) hB
  have L165 : Hid (MidC (wo30.heap.size) (v4.heap.size) y1r2 (xa2) ([(n : Int), (n : Int)]) (xc2)) := L150.out.go (by omega) hB
  have L166 : Hid (MidC (wo30.heap.size) (v4.heap.size) y1r2 (ya2) (mmL n dz1 (vI n dz1)) (yc2)) := L151.out.go (by omega) hB
  have L167 : Hid (MidC (wo52.heap.size) (v5.heap.size) y1r2 (xa3) ([(n : Int), (n : Int)]) (xc3)) := L152.out.go (by omega) hB
  have L168 : Hid (MidC (wo52.heap.size) (v5.heap.size) y1r2 (ya3) (mmL n (vI n dz1) dz1) (yc3)) := L153.out.go (by omega) hB
  have L169 : Hid (MidC (wo77.heap.size) (v6.heap.size) y1r2 (xa4) ([(n : Int), (n : Int)]) (xc4)) := L154.out.go (by omega) hB
  have L170 : Hid (MidC (wo77.heap.size) (v6.heap.size) y1r2 (ya4) (vI n (vI n dz1)) (yc4)) := L155.out.go (by omega) hB
  have hb171 : Hid (Below w.heap.size w y1r2) := hb156.out.trans (hB.mono hb156.out.size)
  clear hB hb156 B143 B144 B145 B146 B147 L148 L149 L150 L151 L152 L153 L154 L155
  have l172 := (B158.out).c0
  have l173 := (B158.out).c1
  have l174 := (B158.out).c2
  go_wp2_with fail
  clear l172 l173 l174
  refine (sdet_e14 n hn (some ⟨b1, o1, none⟩) sc1 da1 dc1 dz1 dz1.length rfl HL1.out d HD.out _ ((HI1.out.1.below hb171.out).mono hb171.out.size).1 ((HI1.out.2.1.below hb171.out).mono hb171.out.size).1).mono ?_
  rintro e v8 ⟨rfl, hB⟩
  have z175 : y1r2.heap.size ≤ v8.heap.size := hB.size
  have B176 : Hid (Abx v8 (w.heap.size) (.bool false) (.slice (some ⟨b1, o1, none⟩) 2 sc1) (.slice da1 dz1.length dc1)) := B158.out.go hB
  have B177 : Hid (Abx v8 (v3.heap.size) (.bool false) (.slice (xa1) 2 (xc1)) (.slice (ya1) ((vI n dz1).length) (yc1))) := B159.out.go hB
  have B178 : Hid (Abx v8 (v4.heap.size) (.bool false) (.slice (xa2) 2 (xc2)) (.slice (ya2) ((mmL n dz1 (vI n dz1)).length) (yc2))) := B160.out.go hB
  have B179 : Hid (Abx v8 (v5.heap.size) (.bool false) (.slice (xa3) 2 (xc3)) (.slice (ya3) ((mmL n (vI n dz1) dz1).length) (yc3))) := B161.out.go hB
  have B180 : Hid (Abx v8 (v6.heap.size) (.bool false) (.slice (xa4) 2 (xc4)) (.slice (ya4) ((vI n (vI n dz1)).length) (yc4))) := B162.out.go hB
  have L181 : Hid (MidC (v2.heap.size) (v3.heap.size) v8 (xa1) ([(n : Int), (n : Int)]) (xc1)) := L163.out.go (by omega) hB
  have L182 : Hid (MidC (v2.heap.size) (v3.heap.size) v8 (ya1) (vI n dz1) (yc1)) := L164.out.go (by omega) hB
  have L183 : Hid (MidC (wo30.heap.size) (v4.heap.size) v8 (xa2) ([(n : Int), (n : Int)]) (xc2)) := L165.out.go (by omega) hB
  have L184 : Hid (MidC (wo30.heap.size) (v4.heap.size) v8 (ya2) (mmL n dz1 (vI n dz1)) (yc2)) := L166.out.go (by omega) hB
  have L185 : Hid (MidC (wo52.heap.size) (v5.heap.size) v8 (xa3) ([(n : Int), (n : Int)]) (xc3)) := L167.out.go (by omega) hB
  have L186 : Hid (MidC (wo52.heap.size) (v5.heap.size) v8 (ya3) (mmL n (vI n dz1) dz1) (yc3)) := L168.out.go (by omega) hB
  have L187 : Hid (MidC (wo77.heap.size) (v6.heap.size) v8 (xa4) ([(n : Int), (n : Int)]) (xc4)) := L169.out.go (by omega) hB
  have L188 : Hid (MidC (wo77.heap.size) (v6.heap.size) v8 (ya4) (vI n (vI n dz1)) (yc4)) := L170.out.go (by omega) hB
  have hb189 : Hid (Below w.heap.size w v8) := hb171.out.trans (hB.mono hb171.out.size)
  clear hB hb171 B158 B159 B160 B161 B162 L163 L164 L165 L166 L167 L168 L169 L170
  go_wp2_with fail
  go_ret
  exact ⟨ret_bool (by have := HR.out; simp [this]), hb189.out⟩
theorem mback_walk (HNi : CNi) (c1 : Bool) (sa1 : Option Addr) (sc1 : Nat) (sz1 : List Int) (da1 : Option Addr) (dc1 : Nat) (dz1 : List Int) (w : World) (hg : HasErr w) (w8 : IsArrD w sa1 sz1 sc1 da1 dz1 dc1) :
    Calls Tryd.prog 3 #[.agg #[.bool c1, .slice sa1 sz1.length sc1, .slice da1 dz1.length dc1]] w fun e w' => e = .returned (.bool true) ∧ Below w.heap.size w w' := by
  by_cases h1 : SqP c1 sz1 dz1
  · obtain ⟨n, hn, rfl, hl1, rfl⟩ := h1
    obtain ⟨b1, o1, rfl⟩ := opn14 w8.2.2.1
    have h2 : wrap64 (dt n (rdg n dz1)) % 2 = 0 ∨ wrap64 (dt n (rdg n dz1)) % 2 = 1 := by omega
    rcases h2 with h2 | h2
    · exact back_e n hn b1 o1 sc1 da1 dc1 dz1 hl1 w ⟨w8.2.2.1, w8.2.2.2.1, w8.2.2.2.2.2⟩ hg h2
    · exact back_o HNi n hn b1 o1 sc1 da1 dc1 dz1 hl1 w ⟨w8.2.2.1, w8.2.2.2.1, w8.2.2.2.2.2⟩ h2
  · exact back_a HNi c1 sa1 sc1 sz1 da1 dc1 dz1 w hg w8 h1
end Go.Proofs.YtjaabemlpiafaabDoor
