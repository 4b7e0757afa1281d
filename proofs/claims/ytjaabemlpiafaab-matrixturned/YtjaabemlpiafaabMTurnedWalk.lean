/-
  The walk of the statement MatrixTurned, given what the program tells.
-/
import Derived.Test.YtjaabemlpiafaabMto
import Derived.Test.YtjaabemlpiafaabPrdw
import Derived.Test.YtjaabemlpiafaabMidc
import Derived.Test.YtjaabemlpiafaabSarr
namespace Go.Proofs.Ytjaabemlpiafaab
open Go.RowKit
set_option linter.unusedVariables false

theorem ints14 (n : Nat) (a b : Option Addr) (zs us : List Int) (h : zs = us) (hl : zs.length = n + 1) (hn : n ≤ 6) (w : World) (hI : IsInts w.heap.size w a zs) (hI' : IsInts w.heap.size w b us) :
    Calls Try.prog 14 #[.slice a (n + 1) (n + 1), .slice b (n + 1) (n + 1)] w fun e w' => e = .returned (.bool true) ∧ Below w.heap.size w w' := by
  subst h
  have := ints_any a (n + 1) zs b (n + 1) zs (by omega) w.heap.size w hI hI'
  rwa [eqB_true rfl, hl] at this
theorem shp14 {w v : World} {b o n sc : Nat} (h : IsC w.heap.size w (some ⟨b, o, none⟩) [(n : Int), (n : Int)] sc) (hB : Below w.heap.size w v) : b < w.heap.size ∧ v.cell? ⟨b, o, none⟩ = some (.int .i64 (n : Int)) := by
  obtain ⟨b', o', e, hb, hc⟩ := (h.1.below hB).at (q := 0) (by simp)
  cases e
  have h0 := hc 0 (by simp)
  rw [Nat.add_zero] at h0
  exact ⟨hb, h0⟩
theorem opn14 {w : World} {sa : Option Addr} {n sc : Nat} (h : IsC w.heap.size w sa [(n : Int), (n : Int)] sc) : ∃ b o, sa = some ⟨b, o, none⟩ := by
  obtain ⟨b, o, e, _, _⟩ := h.1.at (q := 0) (by simp)
  exact ⟨b, o, e⟩
theorem short14 {n : Nat} (hn : n ≤ 6) {D : List Int} (h : D.length = n * n) : D.length ≤ 9223372036854775807 := by
  have : n * n ≤ 6 * 6 := Nat.mul_le_mul hn hn
  omega
set_option maxRecDepth 100000 in
set_option maxHeartbeats 4000000 in
theorem turn_a (HFl : CFl) (c1 : Bool) (sa1 : Option Addr) (sc1 : Nat) (sz1 : List Int) (da1 : Option Addr) (dc1 : Nat) (dz1 : List Int) (w : World) (w8 : IsArrD w sa1 sz1 sc1 da1 dz1 dc1) (G1 : Hid (¬ SqP c1 sz1 dz1)) :
    Calls Try.prog 4 #[.agg #[.bool c1, .slice sa1 sz1.length sc1, .slice da1 dz1.length dc1]] w fun e w' => e = .returned (.bool true) ∧ Below w.heap.size w w' := by
  have HI1 : Hid (IsC w.heap.size w sa1 sz1 sc1 ∧ IsC w.heap.size w da1 dz1 dc1) := ⟨w8.2.2.1, w8.2.2.2.1⟩
  have n1 := Abx.new w (.bool c1) (.slice sa1 sz1.length sc1) (.slice da1 dz1.length dc1)
  go_enter Try.func4, Try.ntmps4
  go_wp2_with fail
  obtain ⟨wo2, hwo2⟩ : ∃ wo2, wo2 = (w.alloc (.cells #[.bool c1, .slice sa1 sz1.length sc1, .slice da1 dz1.length dc1] 24)) := ⟨_, rfl⟩
  rw [← hwo2]
  have z3 : w.heap.size + 1 ≤ wo2.heap.size := by rw [hwo2]; simp only [World.size_alloc]; omega
  have B4 : Hid (Abx wo2 (w.heap.size) (.bool c1) (.slice sa1 sz1.length sc1) (.slice da1 dz1.length dc1)) := by rw [hwo2]; exact n1
  have hb5 : Hid (Below w.heap.size w wo2) := by rw [hwo2]; exact ((Below.refl w.heap.size w).alloc (by omega) (.cells #[.bool c1, .slice sa1 sz1.length sc1, .slice da1 dz1.length dc1] 24))
  have zwo2 : w.heap.size ≤ wo2.heap.size := hb5.out.size
  clear hwo2 n1
  refine (fact14_any _).mono ?_
  rintro e v1 ⟨rfl, hB⟩
  have z6 : wo2.heap.size ≤ v1.heap.size := hB.size
  have B7 : Hid (Abx v1 (w.heap.size) (.bool c1) (.slice sa1 sz1.length sc1) (.slice da1 dz1.length dc1)) := B4.out.go hB
  have hb8 : Hid (Below w.heap.size w v1) := hb5.out.trans (hB.mono hb5.out.size)
  clear hB hb5 B4
  have l9 := (B7.out).c0
  have l10 := (B7.out).c1
  have l11 := (B7.out).c2
  go_wp2_with fail
  clear l9 l10 l11
  refine (square_no c1 sa1 sc1 sz1 da1 dc1 dz1 _ ((HI1.out.1.below hb8.out).mono hb8.out.size).1 G1.out).mono ?_
  rintro e v2 ⟨rfl, hB⟩
  have z12 : v1.heap.size ≤ v2.heap.size := hB.size
  have B13 : Hid (Abx v2 (w.heap.size) (.bool c1) (.slice sa1 sz1.length sc1) (.slice da1 dz1.length dc1)) := B7.out.go hB
  have hb14 : Hid (Below w.heap.size w v2) := hb8.out.trans (hB.mono hb8.out.size)
  clear hB hb8 B7
  go_wp2_with fail
  go_ret
  exact ⟨rfl, hb14.out⟩
set_option maxRecDepth 100000 in
set_option maxHeartbeats 4000000 in
theorem turn_ok (HFl : CFl) (n : Nat) (hn : n ≤ 6) (b1 o1 sc1 : Nat) (da1 : Option Addr) (dc1 : Nat) (dz1 : List Int) (HL1 : Hid (dz1.length = n * n)) (w : World) (HI1 : Hid (IsC w.heap.size w (some ⟨b1, o1, none⟩) [(n : Int), (n : Int)] sc1 ∧ IsC w.heap.size w da1 dz1 dc1 ∧ ∀ j, In64 (nth dz1 j))) :
    Calls Try.prog 4 #[.agg #[.bool false, .slice (some ⟨b1, o1, none⟩) 2 sc1, .slice da1 dz1.length dc1]] w fun e w' => e = .returned (.bool true) ∧ Below w.heap.size w w' := by
  have n1 := Abx.new w (.bool false) (.slice (some ⟨b1, o1, none⟩) 2 sc1) (.slice da1 dz1.length dc1)
  go_enter Try.func4, Try.ntmps4
  go_wp2_with fail
  obtain ⟨wo2, hwo2⟩ : ∃ wo2, wo2 = (w.alloc (.cells #[.bool false, .slice (some ⟨b1, o1, none⟩) 2 sc1, .slice da1 dz1.length dc1] 24)) := ⟨_, rfl⟩
  rw [← hwo2]
  have z3 : w.heap.size + 1 ≤ wo2.heap.size := by rw [hwo2]; simp only [World.size_alloc]; omega
  have B4 : Hid (Abx wo2 (w.heap.size) (.bool false) (.slice (some ⟨b1, o1, none⟩) 2 sc1) (.slice da1 dz1.length dc1)) := by rw [hwo2]; exact n1
  have hb5 : Hid (Below w.heap.size w wo2) := by rw [hwo2]; exact ((Below.refl w.heap.size w).alloc (by omega) (.cells #[.bool false, .slice (some ⟨b1, o1, none⟩) 2 sc1, .slice da1 dz1.length dc1] 24))
  have zwo2 : w.heap.size ≤ wo2.heap.size := hb5.out.size
  clear hwo2 n1
  refine (fact14_any _).mono ?_
  rintro e v1 ⟨rfl, hB⟩
  have z6 : wo2.heap.size ≤ v1.heap.size := hB.size
  have B7 : Hid (Abx v1 (w.heap.size) (.bool false) (.slice (some ⟨b1, o1, none⟩) 2 sc1) (.slice da1 dz1.length dc1)) := B4.out.go hB
  have hb8 : Hid (Below w.heap.size w v1) := hb5.out.trans (hB.mono hb5.out.size)
  clear hB hb5 B4
  have l9 := (B7.out).c0
  have l10 := (B7.out).c1
  have l11 := (B7.out).c2
  go_wp2_with fail
  clear l9 l10 l11
  refine (square_yes n hn (some ⟨b1, o1, none⟩) sc1 da1 dc1 dz1 dz1.length rfl HL1.out _ ((HI1.out.1.below hb8.out).mono hb8.out.size).1).mono ?_
  rintro e v2 ⟨rfl, hB⟩
  have z12 : v1.heap.size ≤ v2.heap.size := hB.size
  have B13 : Hid (Abx v2 (w.heap.size) (.bool false) (.slice (some ⟨b1, o1, none⟩) 2 sc1) (.slice da1 dz1.length dc1)) := B7.out.go hB
  have hb14 : Hid (Below w.heap.size w v2) := hb8.out.trans (hB.mono hb8.out.size)
  clear hB hb8 B7
  have n15 := lit_mid v2 3 [1, 0] 2 rfl
  simp only [List.map_cons, List.map_nil] at n15
  have l16 := ((B13.out.al (.cells #[.int .i64 1, .int .i64 0] 3))).c0
  have l17 := ((B13.out.al (.cells #[.int .i64 1, .int .i64 0] 3))).c1
  have l18 := ((B13.out.al (.cells #[.int .i64 1, .int .i64 0] 3))).c2
  go_wp2_with fail
  obtain ⟨wo19, hwo19⟩ : ∃ wo19, wo19 = (v2.alloc (.cells #[.int .i64 1, .int .i64 0] 3)) := ⟨_, rfl⟩
  rw [← hwo19]
  have z20 : v2.heap.size + 1 ≤ wo19.heap.size := by rw [hwo19]; simp only [World.size_alloc]; omega
  have B21 : Hid (Abx wo19 (w.heap.size) (.bool false) (.slice (some ⟨b1, o1, none⟩) 2 sc1) (.slice da1 dz1.length dc1)) := by rw [hwo19]; exact (B13.out.al (.cells #[.int .i64 1, .int .i64 0] 3))
  have L22 : Hid (MidC (v2.heap.size) (v2.heap.size + 1) wo19 (some ⟨v2.heap.size, 0, none⟩) ([1, 0]) (2)) := by rw [hwo19]; exact n15
  have hb23 : Hid (Below w.heap.size w wo19) := by rw [hwo19]; exact (hb14.out.alloc (by omega) (.cells #[.int .i64 1, .int .i64 0] 3))
  have zwo19 : w.heap.size ≤ wo19.heap.size := hb23.out.size
  clear hwo19 n15 l16 l17 l18 hb14 B13
  refine (flw13 false (some ⟨b1, o1, none⟩) sc1 [(n : Int), (n : Int)] da1 dc1 dz1 _ (by simp) (short14 hn (HL1.out)) ((HI1.out.1.below hb23.out).mono hb23.out.size) ((HI1.out.2.1.below hb23.out).mono hb23.out.size).1 HI1.out.2.2 HFl (some ⟨v2.heap.size, 0, none⟩) 2 [1, 0] 2 rfl (by decide) (L22.out.is (by omega)).1 [(n : Int), (n : Int)] (cls n (tr (rdg n dz1))) (flp_flE hn (HL1.out))).mono ?_
  rintro e v3 ⟨xa1, xc1, ya1, yc1, rfl, hX1, hY1, hB⟩
  have z24 : wo19.heap.size ≤ v3.heap.size := hB.size
  have B25 : Hid (Abx v3 (w.heap.size) (.bool false) (.slice (some ⟨b1, o1, none⟩) 2 sc1) (.slice da1 dz1.length dc1)) := B21.out.go hB
  have L26 : Hid (MidC (v2.heap.size) (v2.heap.size + 1) v3 (some ⟨v2.heap.size, 0, none⟩) ([1, 0]) (2)) := L22.out.go (by omega) hB
  have hb27 : Hid (Below w.heap.size w v3) := hb23.out.trans (hB.mono hb23.out.size)
  have L28 : Hid (MidC (wo19.heap.size) (v3.heap.size) v3 (xa1) ([(n : Int), (n : Int)]) (xc1)) := hX1.midc
  have L29 : Hid (MidC (wo19.heap.size) (v3.heap.size) v3 (ya1) (cls n (tr (rdg n dz1))) ((cls n (tr (rdg n dz1))).length)) := hY1.midc
  clear hB hb23 B21 L22 hX1 hY1
  clear L26
  have n30 := Abx.new v3 (.bool false) (.slice (xa1) 2 (xc1)) (.slice (ya1) (cls n (tr (rdg n dz1))).length yc1)
  have l31 := ((B25.out.al (.cells #[.bool false, .slice (xa1) 2 (xc1), .slice (ya1) (cls n (tr (rdg n dz1))).length yc1] 24))).c0
  have l32 := ((B25.out.al (.cells #[.bool false, .slice (xa1) 2 (xc1), .slice (ya1) (cls n (tr (rdg n dz1))).length yc1] 24))).c1
  have l33 := ((B25.out.al (.cells #[.bool false, .slice (xa1) 2 (xc1), .slice (ya1) (cls n (tr (rdg n dz1))).length yc1] 24))).c2
  go_wp2_with fail
  obtain ⟨wo34, hwo34⟩ : ∃ wo34, wo34 = (v3.alloc (.cells #[.bool false, .slice (xa1) 2 (xc1), .slice (ya1) (cls n (tr (rdg n dz1))).length yc1] 24)) := ⟨_, rfl⟩
  rw [← hwo34]
  have z35 : v3.heap.size + 1 ≤ wo34.heap.size := by rw [hwo34]; simp only [World.size_alloc]; omega
  have B36 : Hid (Abx wo34 (w.heap.size) (.bool false) (.slice (some ⟨b1, o1, none⟩) 2 sc1) (.slice da1 dz1.length dc1)) := by rw [hwo34]; exact (B25.out.al (.cells #[.bool false, .slice (xa1) 2 (xc1), .slice (ya1) (cls n (tr (rdg n dz1))).length yc1] 24))
  have B37 : Hid (Abx wo34 (v3.heap.size) (.bool false) (.slice (xa1) 2 (xc1)) (.slice (ya1) (cls n (tr (rdg n dz1))).length yc1)) := by rw [hwo34]; exact n30
  have L38 : Hid (MidC (wo19.heap.size) (v3.heap.size) wo34 (xa1) ([(n : Int), (n : Int)]) (xc1)) := by rw [hwo34]; exact (L28.out.al (by omega) (.cells #[.bool false, .slice (xa1) 2 (xc1), .slice (ya1) (cls n (tr (rdg n dz1))).length yc1] 24))
  have L39 : Hid (MidC (wo19.heap.size) (v3.heap.size) wo34 (ya1) (cls n (tr (rdg n dz1))) ((cls n (tr (rdg n dz1))).length)) := by rw [hwo34]; exact (L29.out.al (by omega) (.cells #[.bool false, .slice (xa1) 2 (xc1), .slice (ya1) (cls n (tr (rdg n dz1))).length yc1] 24))
  have hb40 : Hid (Below w.heap.size w wo34) := by rw [hwo34]; exact (hb27.out.alloc (by omega) (.cells #[.bool false, .slice (xa1) 2 (xc1), .slice (ya1) (cls n (tr (rdg n dz1))).length yc1] 24))
  have zwo34 : w.heap.size ≤ wo34.heap.size := hb40.out.size
  clear hwo34 n30 l31 l32 l33 hb27 B25 L28 L29
  refine (mchr_ok n hn (some ⟨b1, o1, none⟩) sc1 da1 dc1 dz1 dz1.length rfl HL1.out _ ((HI1.out.1.below hb40.out).mono hb40.out.size).1 ((HI1.out.2.1.below hb40.out).mono hb40.out.size).1).mono ?_
  rintro e v4 ⟨ch1, rfl, hC1, hB⟩
  have z41 : wo34.heap.size ≤ v4.heap.size := hB.size
  have B42 : Hid (Abx v4 (w.heap.size) (.bool false) (.slice (some ⟨b1, o1, none⟩) 2 sc1) (.slice da1 dz1.length dc1)) := B36.out.go hB
  have B43 : Hid (Abx v4 (v3.heap.size) (.bool false) (.slice (xa1) 2 (xc1)) (.slice (ya1) (cls n (tr (rdg n dz1))).length yc1)) := B37.out.go hB
  have L44 : Hid (MidC (wo19.heap.size) (v3.heap.size) v4 (xa1) ([(n : Int), (n : Int)]) (xc1)) := L38.out.go (by omega) hB
  have L45 : Hid (MidC (wo19.heap.size) (v3.heap.size) v4 (ya1) (cls n (tr (rdg n dz1))) ((cls n (tr (rdg n dz1))).length)) := L39.out.go (by omega) hB
  have hb46 : Hid (Below w.heap.size w v4) := hb40.out.trans (hB.mono hb40.out.size)
  have L47 : Hid (MidC (wo34.heap.size) (v4.heap.size) v4 (ch1) (chR n (rdg n dz1)) (n + 1)) := hC1.midc
  clear hB hb40 B36 B37 L38 L39 hC1
  have l48 := (B43.out).c0
  have l49 := (B43.out).c1
  have l50 := (B43.out).c2
  go_wp2_with fail
  clear l48 l49 l50
  refine (mchr_ok n hn (xa1) (xc1) (ya1) yc1 (cls n (tr (rdg n dz1))) (cls n (tr (rdg n dz1))).length rfl (cls_len n _) _ (L44.out.is (by omega)).1 (L45.out.is (by omega)).1).mono ?_
  rintro e v5 ⟨ch2, rfl, hC2, hB⟩
  have z51 : v4.heap.size ≤ v5.heap.size := hB.size
  have B52 : Hid (Abx v5 (w.heap.size) (.bool false) (.slice (some ⟨b1, o1, none⟩) 2 sc1) (.slice da1 dz1.length dc1)) := B42.out.go hB
  have B53 : Hid (Abx v5 (v3.heap.size) (.bool false) (.slice (xa1) 2 (xc1)) (.slice (ya1) (cls n (tr (rdg n dz1))).length yc1)) := B43.out.go hB
  have L54 : Hid (MidC (wo19.heap.size) (v3.heap.size) v5 (xa1) ([(n : Int), (n : Int)]) (xc1)) := L44.out.go (by omega) hB
  have L55 : Hid (MidC (wo19.heap.size) (v3.heap.size) v5 (ya1) (cls n (tr (rdg n dz1))) ((cls n (tr (rdg n dz1))).length)) := L45.out.go (by omega) hB
  have L56 : Hid (MidC (wo34.heap.size) (v4.heap.size) v5 (ch1) (chR n (rdg n dz1)) (n + 1)) := L47.out.go (by omega) hB
  have hb57 : Hid (Below w.heap.size w v5) := hb46.out.trans (hB.mono hb46.out.size)
  have L58 : Hid (MidC (v4.heap.size) (v5.heap.size) v5 (ch2) (chR n (rdg n (cls n (tr (rdg n dz1))))) (n + 1)) := hC2.midc
  clear hB hb46 B42 B43 L44 L45 L47 hC2
  have l59 := (B52.out).c0
  have l60 := (B52.out).c1
  have l61 := (B52.out).c2
  go_wp2_with fail
  clear l59 l60 l61
  refine (madj_ok n hn (some ⟨b1, o1, none⟩) sc1 da1 dc1 dz1 dz1.length rfl HL1.out _ ((HI1.out.1.below hb57.out).mono hb57.out.size).1 ((HI1.out.2.1.below hb57.out).mono hb57.out.size).1).mono ?_
  rintro e v6 ⟨xa3, xc3, ya3, yc3, rfl, hX3, hY3, hB⟩
  have z62 : v5.heap.size ≤ v6.heap.size := hB.size
  have B63 : Hid (Abx v6 (w.heap.size) (.bool false) (.slice (some ⟨b1, o1, none⟩) 2 sc1) (.slice da1 dz1.length dc1)) := B52.out.go hB
  have B64 : Hid (Abx v6 (v3.heap.size) (.bool false) (.slice (xa1) 2 (xc1)) (.slice (ya1) (cls n (tr (rdg n dz1))).length yc1)) := B53.out.go hB
  have L65 : Hid (MidC (wo19.heap.size) (v3.heap.size) v6 (xa1) ([(n : Int), (n : Int)]) (xc1)) := L54.out.go (by omega) hB
  have L66 : Hid (MidC (wo19.heap.size) (v3.heap.size) v6 (ya1) (cls n (tr (rdg n dz1))) ((cls n (tr (rdg n dz1))).length)) := L55.out.go (by omega) hB
  have L67 : Hid (MidC (wo34.heap.size) (v4.heap.size) v6 (ch1) (chR n (rdg n dz1)) (n + 1)) := L56.out.go (by omega) hB
  have L68 : Hid (MidC (v4.heap.size) (v5.heap.size) v6 (ch2) (chR n (rdg n (cls n (tr (rdg n dz1))))) (n + 1)) := L58.out.go (by omega) hB
  have hb69 : Hid (Below w.heap.size w v6) := hb57.out.trans (hB.mono hb57.out.size)
  have L70 : Hid (MidC (v5.heap.size) (v6.heap.size) v6 (xa3) ([(n : Int), (n : Int)]) (xc3)) := hX3.midc
  have L71 : Hid (MidC (v5.heap.size) (v6.heap.size) v6 (ya3) (cls n (ajg n (rdg n dz1))) (yc3)) := hY3.midc
  clear hB hb57 B52 B53 L54 L55 L56 L58 hX3 hY3
  have n72 := Abx.new v6 (.bool false) (.slice (xa3) 2 (xc3)) (.slice (ya3) (cls n (ajg n (rdg n dz1))).length (yc3))
  have n73 := lit_mid (v6.alloc (.cells #[.bool false, .slice (xa3) 2 (xc3), .slice (ya3) (cls n (ajg n (rdg n dz1))).length (yc3)] 24)) 3 [1, 0] 2 rfl
  simp only [World.size_alloc, List.map_cons, List.map_nil] at n73
  have l74 := ((n72.al (.cells #[.int .i64 1, .int .i64 0] 3))).c0
  have l75 := ((n72.al (.cells #[.int .i64 1, .int .i64 0] 3))).c1
  have l76 := ((n72.al (.cells #[.int .i64 1, .int .i64 0] 3))).c2
  go_wp2_with fail
  obtain ⟨wo77, hwo77⟩ : ∃ wo77, wo77 = ((v6.alloc (.cells #[.bool false, .slice (xa3) 2 (xc3), .slice (ya3) (cls n (ajg n (rdg n dz1))).length (yc3)] 24)).alloc (.cells #[.int .i64 1, .int .i64 0] 3)) := ⟨_, rfl⟩
  rw [← hwo77]
  have z78 : v6.heap.size + 1 + 1 ≤ wo77.heap.size := by rw [hwo77]; simp only [World.size_alloc]; omega
  have B79 : Hid (Abx wo77 (w.heap.size) (.bool false) (.slice (some ⟨b1, o1, none⟩) 2 sc1) (.slice da1 dz1.length dc1)) := by rw [hwo77]; exact ((B63.out.al (.cells #[.bool false, .slice (xa3) 2 (xc3), .slice (ya3) (cls n (ajg n (rdg n dz1))).length (yc3)] 24)).al (.cells #[.int .i64 1, .int .i64 0] 3))
  have B80 : Hid (Abx wo77 (v3.heap.size) (.bool false) (.slice (xa1) 2 (xc1)) (.slice (ya1) (cls n (tr (rdg n dz1))).length yc1)) := by rw [hwo77]; exact ((B64.out.al (.cells #[.bool false, .slice (xa3) 2 (xc3), .slice (ya3) (cls n (ajg n (rdg n dz1))).length (yc3)] 24)).al (.cells #[.int .i64 1, .int .i64 0] 3))
  have B81 : Hid (Abx wo77 (v6.heap.size) (.bool false) (.slice (xa3) 2 (xc3)) (.slice (ya3) (cls n (ajg n (rdg n dz1))).length (yc3))) := by rw [hwo77]; exact (n72.al (.cells #[.int .i64 1, .int .i64 0] 3))
  have L82 : Hid (MidC (wo19.heap.size) (v3.heap.size) wo77 (xa1) ([(n : Int), (n : Int)]) (xc1)) := by rw [hwo77]; exact ((L65.out.al (by omega) (.cells #[.bool false, .slice (xa3) 2 (xc3), .slice (ya3) (cls n (ajg n (rdg n dz1))).length (yc3)] 24)).al (by simp only [World.size_alloc]; omega) (.cells #[.int .i64 1, .int .i64 0] 3))
  have L83 : Hid (MidC (wo19.heap.size) (v3.heap.size) wo77 (ya1) (cls n (tr (rdg n dz1))) ((cls n (tr (rdg n dz1))).length)) := by rw [hwo77]; exact ((L66.out.al (by omega) (.cells #[.bool false, .slice (xa3) 2 (xc3), .slice (ya3) (cls n (ajg n (rdg n dz1))).length (yc3)] 24)).al (by simp only [World.size_alloc]; omega) (.cells #[.int .i64 1, .int .i64 0] 3))
  have L84 : Hid (MidC (wo34.heap.size) (v4.heap.size) wo77 (ch1) (chR n (rdg n dz1)) (n + 1)) := by rw [hwo77]; exact ((L67.out.al (by omega) (.cells #[.bool false, .slice (xa3) 2 (xc3), .slice (ya3) (cls n (ajg n (rdg n dz1))).length (yc3)] 24)).al (by simp only [World.size_alloc]; omega) (.cells #[.int .i64 1, .int .i64 0] 3))
  have L85 : Hid (MidC (v4.heap.size) (v5.heap.size) wo77 (ch2) (chR n (rdg n (cls n (tr (rdg n dz1))))) (n + 1)) := by rw [hwo77]; exact ((L68.out.al (by omega) (.cells #[.bool false, .slice (xa3) 2 (xc3), .slice (ya3) (cls n (ajg n (rdg n dz1))).length (yc3)] 24)).al (by simp only [World.size_alloc]; omega) (.cells #[.int .i64 1, .int .i64 0] 3))
  have L86 : Hid (MidC (v5.heap.size) (v6.heap.size) wo77 (xa3) ([(n : Int), (n : Int)]) (xc3)) := by rw [hwo77]; exact ((L70.out.al (by omega) (.cells #[.bool false, .slice (xa3) 2 (xc3), .slice (ya3) (cls n (ajg n (rdg n dz1))).length (yc3)] 24)).al (by simp only [World.size_alloc]; omega) (.cells #[.int .i64 1, .int .i64 0] 3))
  have L87 : Hid (MidC (v5.heap.size) (v6.heap.size) wo77 (ya3) (cls n (ajg n (rdg n dz1))) (yc3)) := by rw [hwo77]; exact ((L71.out.al (by omega) (.cells #[.bool false, .slice (xa3) 2 (xc3), .slice (ya3) (cls n (ajg n (rdg n dz1))).length (yc3)] 24)).al (by simp only [World.size_alloc]; omega) (.cells #[.int .i64 1, .int .i64 0] 3))
  have L88 : Hid (MidC (v6.heap.size + 1) (v6.heap.size + 1 + 1) wo77 (some ⟨v6.heap.size + 1, 0, none⟩) ([1, 0]) (2)) := by rw [hwo77]; exact n73
  have hb89 : Hid (Below w.heap.size w wo77) := by rw [hwo77]; exact ((hb69.out.alloc (by omega) (.cells #[.bool false, .slice (xa3) 2 (xc3), .slice (ya3) (cls n (ajg n (rdg n dz1))).length (yc3)] 24)).alloc (by simp only [World.size_alloc]; omega) (.cells #[.int .i64 1, .int .i64 0] 3))
  have zwo77 : w.heap.size ≤ wo77.heap.size := hb89.out.size
  clear hwo77 n72 n73 l74 l75 l76 hb69 B63 B64 L65 L66 L67 L68 L70 L71
  refine (flw13 false (xa3) (xc3) [(n : Int), (n : Int)] (ya3) (yc3) (cls n (ajg n (rdg n dz1))) _ (by simp) (short14 hn (cls_len n _)) (L86.out.is (by omega)) (L87.out.is (by omega)).1 (ajg_64 n (rdg n dz1)) HFl (some ⟨v6.heap.size + 1, 0, none⟩) 2 [1, 0] 2 rfl (by decide) (L88.out.is (by omega)).1 [(n : Int), (n : Int)] (cls n (tr (rdg n (cls n (ajg n (rdg n dz1)))))) (flp_flE hn (cls_len n _))).mono ?_
  rintro e v7 ⟨xa4, xc4, ya4, yc4, rfl, hX4, hY4, hB⟩
  have z90 : wo77.heap.size ≤ v7.heap.size := hB.size
  have B91 : Hid (Abx v7 (w.heap.size) (.bool false) (.slice (some ⟨b1, o1, none⟩) 2 sc1) (.slice da1 dz1.length dc1)) := B79.out.go hB
  have B92 : Hid (Abx v7 (v3.heap.size) (.bool false) (.slice (xa1) 2 (xc1)) (.slice (ya1) (cls n (tr (rdg n dz1))).length yc1)) := B80.out.go hB
  have B93 : Hid (Abx v7 (v6.heap.size) (.bool false) (.slice (xa3) 2 (xc3)) (.slice (ya3) (cls n (ajg n (rdg n dz1))).length (yc3))) := B81.out.go hB
  have L94 : Hid (MidC (wo19.heap.size) (v3.heap.size) v7 (xa1) ([(n : Int), (n : Int)]) (xc1)) := L82.out.go (by omega) hB
  have L95 : Hid (MidC (wo19.heap.size) (v3.heap.size) v7 (ya1) (cls n (tr (rdg n dz1))) ((cls n (tr (rdg n dz1))).length)) := L83.out.go (by omega) hB
  have L96 : Hid (MidC (wo34.heap.size) (v4.heap.size) v7 (ch1) (chR n (rdg n dz1)) (n + 1)) := L84.out.go (by omega) hB
  have L97 : Hid (MidC (v4.heap.size) (v5.heap.size) v7 (ch2) (chR n (rdg n (cls n (tr (rdg n dz1))))) (n + 1)) := L85.out.go (by omega) hB
  have L98 : Hid (MidC (v5.heap.size) (v6.heap.size) v7 (xa3) ([(n : Int), (n : Int)]) (xc3)) := L86.out.go (by omega) hB
  have L99 : Hid (MidC (v5.heap.size) (v6.heap.size) v7 (ya3) (cls n (ajg n (rdg n dz1))) (yc3)) := L87.out.go (by omega) hB
  have L100 : Hid (MidC (v6.heap.size + 1) (v6.heap.size + 1 + 1) v7 (some ⟨v6.heap.size + 1, 0, none⟩) ([1, 0]) (2)) := L88.out.go (by omega) hB
  have hb101 : Hid (Below w.heap.size w v7) := hb89.out.trans (hB.mono hb89.out.size)
  have L102 : Hid (MidC (wo77.heap.size) (v7.heap.size) v7 (xa4) ([(n : Int), (n : Int)]) (xc4)) := hX4.midc
  have L103 : Hid (MidC (wo77.heap.size) (v7.heap.size) v7 (ya4) (cls n (tr (rdg n (cls n (ajg n (rdg n dz1)))))) ((cls n (tr (rdg n (cls n (ajg n (rdg n dz1)))))).length)) := hY4.midc
  clear hB hb89 B79 B80 B81 L82 L83 L84 L85 L86 L87 L88 hX4 hY4
  clear L100 L98 L99
  have l104 := (B93.out).fr 0
  have l105 := (B93.out).c0
  have l106 := (B93.out).fr 1
  have l107 := (B93.out).c1
  have l108 := (B93.out).fr 2
  have l109 := (B93.out).c2
  have l110 := ((abx_o3 B92.out (B := v6.heap.size) (by omega) (.bool false) (.slice (xa4) 2 (xc4)) (.slice (ya4) (cls n (tr (rdg n (cls n (ajg n (rdg n dz1)))))).length yc4))).c0
  have l111 := ((abx_o3 B92.out (B := v6.heap.size) (by omega) (.bool false) (.slice (xa4) 2 (xc4)) (.slice (ya4) (cls n (tr (rdg n (cls n (ajg n (rdg n dz1)))))).length yc4))).c1
  have l112 := ((abx_o3 B92.out (B := v6.heap.size) (by omega) (.bool false) (.slice (xa4) 2 (xc4)) (.slice (ya4) (cls n (tr (rdg n (cls n (ajg n (rdg n dz1)))))).length yc4))).c2
  go_wp2_with fail
  obtain ⟨wo113, hwo113⟩ : ∃ wo113, wo113 = (((v7.setCell ⟨v6.heap.size, 0, none⟩ (.bool false)).setCell ⟨v6.heap.size, 1, none⟩ (.slice (xa4) 2 (xc4))).setCell ⟨v6.heap.size, 2, none⟩ (.slice (ya4) (cls n (tr (rdg n (cls n (ajg n (rdg n dz1)))))).length yc4)) := ⟨_, rfl⟩
  rw [← hwo113]
  have z114 : v7.heap.size ≤ wo113.heap.size := by rw [hwo113]; simp only [World.size_setCell]; omega
  have B115 : Hid (Abx wo113 (w.heap.size) (.bool false) (.slice (some ⟨b1, o1, none⟩) 2 sc1) (.slice da1 dz1.length dc1)) := by rw [hwo113]; exact (abx_o3 B91.out (B := v6.heap.size) (by omega) (.bool false) (.slice (xa4) 2 (xc4)) (.slice (ya4) (cls n (tr (rdg n (cls n (ajg n (rdg n dz1)))))).length yc4))
  have B116 : Hid (Abx wo113 (v3.heap.size) (.bool false) (.slice (xa1) 2 (xc1)) (.slice (ya1) (cls n (tr (rdg n dz1))).length yc1)) := by rw [hwo113]; exact (abx_o3 B92.out (B := v6.heap.size) (by omega) (.bool false) (.slice (xa4) 2 (xc4)) (.slice (ya4) (cls n (tr (rdg n (cls n (ajg n (rdg n dz1)))))).length yc4))
  have B117 : Hid (Abx wo113 (v6.heap.size) (.bool false) (.slice (xa4) 2 (xc4)) (.slice (ya4) (cls n (tr (rdg n (cls n (ajg n (rdg n dz1)))))).length yc4)) := by rw [hwo113]; exact (B93.out.set3 (.bool false) (.slice (xa4) 2 (xc4)) (.slice (ya4) (cls n (tr (rdg n (cls n (ajg n (rdg n dz1)))))).length yc4))
  have L118 : Hid (MidC (wo19.heap.size) (v3.heap.size) wo113 (xa1) ([(n : Int), (n : Int)]) (xc1)) := by rw [hwo113]; exact (L94.out.s3 (b := v6.heap.size) (by omega) (.bool false) (.slice (xa4) 2 (xc4)) (.slice (ya4) (cls n (tr (rdg n (cls n (ajg n (rdg n dz1)))))).length yc4))
  have L119 : Hid (MidC (wo19.heap.size) (v3.heap.size) wo113 (ya1) (cls n (tr (rdg n dz1))) ((cls n (tr (rdg n dz1))).length)) := by rw [hwo113]; exact (L95.out.s3 (b := v6.heap.size) (by omega) (.bool false) (.slice (xa4) 2 (xc4)) (.slice (ya4) (cls n (tr (rdg n (cls n (ajg n (rdg n dz1)))))).length yc4))
  have L120 : Hid (MidC (wo34.heap.size) (v4.heap.size) wo113 (ch1) (chR n (rdg n dz1)) (n + 1)) := by rw [hwo113]; exact (L96.out.s3 (b := v6.heap.size) (by omega) (.bool false) (.slice (xa4) 2 (xc4)) (.slice (ya4) (cls n (tr (rdg n (cls n (ajg n (rdg n dz1)))))).length yc4))
  have L121 : Hid (MidC (v4.heap.size) (v5.heap.size) wo113 (ch2) (chR n (rdg n (cls n (tr (rdg n dz1))))) (n + 1)) := by rw [hwo113]; exact (L97.out.s3 (b := v6.heap.size) (by omega) (.bool false) (.slice (xa4) 2 (xc4)) (.slice (ya4) (cls n (tr (rdg n (cls n (ajg n (rdg n dz1)))))).length yc4))
  have L122 : Hid (MidC (wo77.heap.size) (v7.heap.size) wo113 (xa4) ([(n : Int), (n : Int)]) (xc4)) := by rw [hwo113]; exact (L102.out.s3 (b := v6.heap.size) (by omega) (.bool false) (.slice (xa4) 2 (xc4)) (.slice (ya4) (cls n (tr (rdg n (cls n (ajg n (rdg n dz1)))))).length yc4))
  have L123 : Hid (MidC (wo77.heap.size) (v7.heap.size) wo113 (ya4) (cls n (tr (rdg n (cls n (ajg n (rdg n dz1)))))) ((cls n (tr (rdg n (cls n (ajg n (rdg n dz1)))))).length)) := by rw [hwo113]; exact (L103.out.s3 (b := v6.heap.size) (by omega) (.bool false) (.slice (xa4) 2 (xc4)) (.slice (ya4) (cls n (tr (rdg n (cls n (ajg n (rdg n dz1)))))).length yc4))
  have hb124 : Hid (Below w.heap.size w wo113) := by rw [hwo113]; exact (bel_s3 hb101.out (B := v6.heap.size) (by omega) (.bool false) (.slice (xa4) 2 (xc4)) (.slice (ya4) (cls n (tr (rdg n (cls n (ajg n (rdg n dz1)))))).length yc4))
  have zwo113 : w.heap.size ≤ wo113.heap.size := hb124.out.size
  clear hwo113 l104 l105 l106 l107 l108 l109 l110 l111 l112 hb101 B91 B92 B93 L94 L95 L96 L97 L102 L103
  refine (madj_ok n hn (xa1) (xc1) (ya1) yc1 (cls n (tr (rdg n dz1))) (cls n (tr (rdg n dz1))).length rfl (cls_len n _) _ (L118.out.is (by omega)).1 (L119.out.is (by omega)).1).mono ?_
  rintro e v8 ⟨xa5, xc5, ya5, yc5, rfl, hX5, hY5, hB⟩
  have z125 : wo113.heap.size ≤ v8.heap.size := hB.size
  have B126 : Hid (Abx v8 (w.heap.size) (.bool false) (.slice (some ⟨b1, o1, none⟩) 2 sc1) (.slice da1 dz1.length dc1)) := B115.out.go hB
  have B127 : Hid (Abx v8 (v3.heap.size) (.bool false) (.slice (xa1) 2 (xc1)) (.slice (ya1) (cls n (tr (rdg n dz1))).length yc1)) := B116.out.go hB
  have B128 : Hid (Abx v8 (v6.heap.size) (.bool false) (.slice (xa4) 2 (xc4)) (.slice (ya4) (cls n (tr (rdg n (cls n (ajg n (rdg n dz1)))))).length yc4)) := B117.out.go hB
  have L129 : Hid (MidC (wo19.heap.size) (v3.heap.size) v8 (xa1) ([(n : Int), (n : Int)]) (xc1)) := L118.out.go (by omega) hB
  have L130 : Hid (MidC (wo19.heap.size) (v3.heap.size) v8 (ya1) (cls n (tr (rdg n dz1))) ((cls n (tr (rdg n dz1))).length)) := L119.out.go (by omega) hB
  have L131 : Hid (MidC (wo34.heap.size) (v4.heap.size) v8 (ch1) (chR n (rdg n dz1)) (n + 1)) := L120.out.go (by omega) hB
  have L132 : Hid (MidC (v4.heap.size) (v5.heap.size) v8 (ch2) (chR n (rdg n (cls n (tr (rdg n dz1))))) (n + 1)) := L121.out.go (by omega) hB
  have L133 : Hid (MidC (wo77.heap.size) (v7.heap.size) v8 (xa4) ([(n : Int), (n : Int)]) (xc4)) := L122.out.go (by omega) hB
  have L134 : Hid (MidC (wo77.heap.size) (v7.heap.size) v8 (ya4) (cls n (tr (rdg n (cls n (ajg n (rdg n dz1)))))) ((cls n (tr (rdg n (cls n (ajg n (rdg n dz1)))))).length)) := L123.out.go (by omega) hB
  have hb135 : Hid (Below w.heap.size w v8) := hb124.out.trans (hB.mono hb124.out.size)
  have L136 : Hid (MidC (wo113.heap.size) (v8.heap.size) v8 (xa5) ([(n : Int), (n : Int)]) (xc5)) := hX5.midc
  have L137 : Hid (MidC (wo113.heap.size) (v8.heap.size) v8 (ya5) (cls n (ajg n (rdg n (cls n (tr (rdg n dz1)))))) (yc5)) := hY5.midc
  clear hB hb124 B115 B116 B117 L118 L119 L120 L121 L122 L123 hX5 hY5
  have n138 := Abx.new v8 (.bool false) (.slice (xa5) 2 (xc5)) (.slice (ya5) (cls n (ajg n (rdg n (cls n (tr (rdg n dz1)))))).length (yc5))
  go_wp2_with fail
  obtain ⟨wo139, hwo139⟩ : ∃ wo139, wo139 = (v8.alloc (.cells #[.bool false, .slice (xa5) 2 (xc5), .slice (ya5) (cls n (ajg n (rdg n (cls n (tr (rdg n dz1)))))).length (yc5)] 24)) := ⟨_, rfl⟩
  rw [← hwo139]
  have z140 : v8.heap.size + 1 ≤ wo139.heap.size := by rw [hwo139]; simp only [World.size_alloc]; omega
  have B141 : Hid (Abx wo139 (w.heap.size) (.bool false) (.slice (some ⟨b1, o1, none⟩) 2 sc1) (.slice da1 dz1.length dc1)) := by rw [hwo139]; exact (B126.out.al (.cells #[.bool false, .slice (xa5) 2 (xc5), .slice (ya5) (cls n (ajg n (rdg n (cls n (tr (rdg n dz1)))))).length (yc5)] 24))
  have B142 : Hid (Abx wo139 (v3.heap.size) (.bool false) (.slice (xa1) 2 (xc1)) (.slice (ya1) (cls n (tr (rdg n dz1))).length yc1)) := by rw [hwo139]; exact (B127.out.al (.cells #[.bool false, .slice (xa5) 2 (xc5), .slice (ya5) (cls n (ajg n (rdg n (cls n (tr (rdg n dz1)))))).length (yc5)] 24))
  have B143 : Hid (Abx wo139 (v6.heap.size) (.bool false) (.slice (xa4) 2 (xc4)) (.slice (ya4) (cls n (tr (rdg n (cls n (ajg n (rdg n dz1)))))).length yc4)) := by rw [hwo139]; exact (B128.out.al (.cells #[.bool false, .slice (xa5) 2 (xc5), .slice (ya5) (cls n (ajg n (rdg n (cls n (tr (rdg n dz1)))))).length (yc5)] 24))
  have B144 : Hid (Abx wo139 (v8.heap.size) (.bool false) (.slice (xa5) 2 (xc5)) (.slice (ya5) (cls n (ajg n (rdg n (cls n (tr (rdg n dz1)))))).length (yc5))) := by rw [hwo139]; exact n138
  have L145 : Hid (MidC (wo19.heap.size) (v3.heap.size) wo139 (xa1) ([(n : Int), (n : Int)]) (xc1)) := by rw [hwo139]; exact (L129.out.al (by omega) (.cells #[.bool false, .slice (xa5) 2 (xc5), .slice (ya5) (cls n (ajg n (rdg n (cls n (tr (rdg n dz1)))))).length (yc5)] 24))
  have L146 : Hid (MidC (wo19.heap.size) (v3.heap.size) wo139 (ya1) (cls n (tr (rdg n dz1))) ((cls n (tr (rdg n dz1))).length)) := by rw [hwo139]; exact (L130.out.al (by omega) (.cells #[.bool false, .slice (xa5) 2 (xc5), .slice (ya5) (cls n (ajg n (rdg n (cls n (tr (rdg n dz1)))))).length (yc5)] 24))
  have L147 : Hid (MidC (wo34.heap.size) (v4.heap.size) wo139 (ch1) (chR n (rdg n dz1)) (n + 1)) := by rw [hwo139]; exact (L131.out.al (by omega) (.cells #[.bool false, .slice (xa5) 2 (xc5), .slice (ya5) (cls n (ajg n (rdg n (cls n (tr (rdg n dz1)))))).length (yc5)] 24))
  have L148 : Hid (MidC (v4.heap.size) (v5.heap.size) wo139 (ch2) (chR n (rdg n (cls n (tr (rdg n dz1))))) (n + 1)) := by rw [hwo139]; exact (L132.out.al (by omega) (.cells #[.bool false, .slice (xa5) 2 (xc5), .slice (ya5) (cls n (ajg n (rdg n (cls n (tr (rdg n dz1)))))).length (yc5)] 24))
  have L149 : Hid (MidC (wo77.heap.size) (v7.heap.size) wo139 (xa4) ([(n : Int), (n : Int)]) (xc4)) := by rw [hwo139]; exact (L133.out.al (by omega) (.cells #[.bool false, .slice (xa5) 2 (xc5), .slice (ya5) (cls n (ajg n (rdg n (cls n (tr (rdg n dz1)))))).length (yc5)] 24))
  have L150 : Hid (MidC (wo77.heap.size) (v7.heap.size) wo139 (ya4) (cls n (tr (rdg n (cls n (ajg n (rdg n dz1)))))) ((cls n (tr (rdg n (cls n (ajg n (rdg n dz1)))))).length)) := by rw [hwo139]; exact (L134.out.al (by omega) (.cells #[.bool false, .slice (xa5) 2 (xc5), .slice (ya5) (cls n (ajg n (rdg n (cls n (tr (rdg n dz1)))))).length (yc5)] 24))
  have L151 : Hid (MidC (wo113.heap.size) (v8.heap.size) wo139 (xa5) ([(n : Int), (n : Int)]) (xc5)) := by rw [hwo139]; exact (L136.out.al (by omega) (.cells #[.bool false, .slice (xa5) 2 (xc5), .slice (ya5) (cls n (ajg n (rdg n (cls n (tr (rdg n dz1)))))).length (yc5)] 24))
  have L152 : Hid (MidC (wo113.heap.size) (v8.heap.size) wo139 (ya5) (cls n (ajg n (rdg n (cls n (tr (rdg n dz1)))))) (yc5)) := by rw [hwo139]; exact (L137.out.al (by omega) (.cells #[.bool false, .slice (xa5) 2 (xc5), .slice (ya5) (cls n (ajg n (rdg n (cls n (tr (rdg n dz1)))))).length (yc5)] 24))
  have hb153 : Hid (Below w.heap.size w wo139) := by rw [hwo139]; exact (hb135.out.alloc (by omega) (.cells #[.bool false, .slice (xa5) 2 (xc5), .slice (ya5) (cls n (ajg n (rdg n (cls n (tr (rdg n dz1)))))).length (yc5)] 24))
  have zwo139 : w.heap.size ≤ wo139.heap.size := hb153.out.size
  clear hwo139 n138 hb135 B126 B127 B128 L129 L130 L131 L132 L133 L134 L136 L137
  refine (ints14 n ch1 ch2 (chR n (rdg n dz1)) (chR n (rdg n (cls n (tr (rdg n dz1))))) (ch_turned n dz1).symm (by simp [chR]) hn _ (L147.out.is (by omega)).1 (L148.out.is (by omega)).1).mono ?_
  rintro e v9 ⟨rfl, hB⟩
  have z154 : wo139.heap.size ≤ v9.heap.size := hB.size
  have B155 : Hid (Abx v9 (w.heap.size) (.bool false) (.slice (some ⟨b1, o1, none⟩) 2 sc1) (.slice da1 dz1.length dc1)) := B141.out.go hB
  have B156 : Hid (Abx v9 (v3.heap.size) (.bool false) (.slice (xa1) 2 (xc1)) (.slice (ya1) (cls n (tr (rdg n dz1))).length yc1)) := B142.out.go hB
  have B157 : Hid (Abx v9 (v6.heap.size) (.bool false) (.slice (xa4) 2 (xc4)) (.slice (ya4) (cls n (tr (rdg n (cls n (ajg n (rdg n dz1)))))).length yc4)) := B143.out.go hB
  have B158 : Hid (Abx v9 (v8.heap.size) (.bool false) (.slice (xa5) 2 (xc5)) (.slice (ya5) (cls n (ajg n (rdg n (cls n (tr (rdg n dz1)))))).length (yc5))) := B144.out.go hB
  have L159 : Hid (MidC (wo19.heap.size) (v3.heap.size) v9 (xa1) ([(n : Int), (n : Int)]) (xc1)) := L145.out.go (by omega) hB
  have L160 : Hid (MidC (wo19.heap.size) (v3.heap.size) v9 (ya1) (cls n (tr (rdg n dz1))) ((cls n (tr (rdg n dz1))).length)) := L146.out.go (by omega) hB
  have L161 : Hid (MidC (wo34.heap.size) (v4.heap.size) v9 (ch1) (chR n (rdg n dz1)) (n + 1)) := L147.out.go (by omega) hB
  have L162 : Hid (MidC (v4.heap.size) (v5.heap.size) v9 (ch2) (chR n (rdg n (cls n (tr (rdg n dz1))))) (n + 1)) := L148.out.go (by omega) hB
  have L163 : Hid (MidC (wo77.heap.size) (v7.heap.size) v9 (xa4) ([(n : Int), (n : Int)]) (xc4)) := L149.out.go (by omega) hB
  have L164 : Hid (MidC (wo77.heap.size) (v7.heap.size) v9 (ya4) (cls n (tr (rdg n (cls n (ajg n (rdg n dz1)))))) ((cls n (tr (rdg n (cls n (ajg n (rdg n dz1)))))).length)) := L150.out.go (by omega) hB
  have L165 : Hid (MidC (wo113.heap.size) (v8.heap.size) v9 (xa5) ([(n : Int), (n : Int)]) (xc5)) := L151.out.go (by omega) hB
  have L166 : Hid (MidC (wo113.heap.size) (v8.heap.size) v9 (ya5) (cls n (ajg n (rdg n (cls n (tr (rdg n dz1)))))) (yc5)) := L152.out.go (by omega) hB
  have hb167 : Hid (Below w.heap.size w v9) := hb153.out.trans (hB.mono hb153.out.size)
  clear hB hb153 B141 B142 B143 B144 L145 L146 L147 L148 L149 L150 L151 L152
  have l168 := (B157.out).c0
  have l169 := (B157.out).c1
  have l170 := (B157.out).c2
  have l171 := (B158.out).c0
  have l172 := (B158.out).c1
  have l173 := (B158.out).c2
  go_wp2_with fail
  clear l168 l169 l170 l171 l172 l173
  refine (alike_eq false (xa4) (xc4) [(n : Int), (n : Int)] (ya4) (yc4) (cls n (tr (rdg n (cls n (ajg n (rdg n dz1)))))) (xa5) (xc5) [(n : Int), (n : Int)] (ya5) (yc5) (cls n (ajg n (rdg n (cls n (tr (rdg n dz1)))))) rfl (aj_turned n dz1) (by simp) (short14 hn (cls_len n _)) _ (L163.out.is (by omega)) (L164.out.is (by omega)).1 (L165.out.is (by omega)) (L166.out.is (by omega)).1).mono ?_
  rintro e v10 ⟨rfl, hB⟩
  have z174 : v9.heap.size ≤ v10.heap.size := hB.size
  have B175 : Hid (Abx v10 (w.heap.size) (.bool false) (.slice (some ⟨b1, o1, none⟩) 2 sc1) (.slice da1 dz1.length dc1)) := B155.out.go hB
  have B176 : Hid (Abx v10 (v3.heap.size) (.bool false) (.slice (xa1) 2 (xc1)) (.slice (ya1) (cls n (tr (rdg n dz1))).length yc1)) := B156.out.go hB
  have B177 : Hid (Abx v10 (v6.heap.size) (.bool false) (.slice (xa4) 2 (xc4)) (.slice (ya4) (cls n (tr (rdg n (cls n (ajg n (rdg n dz1)))))).length yc4)) := B157.out.go hB
  have B178 : Hid (Abx v10 (v8.heap.size) (.bool false) (.slice (xa5) 2 (xc5)) (.slice (ya5) (cls n (ajg n (rdg n (cls n (tr (rdg n dz1)))))).length (yc5))) := B158.out.go hB
  have L179 : Hid (MidC (wo19.heap.size) (v3.heap.size) v10 (xa1) ([(n : Int), (n : Int)]) (xc1)) := L159.out.go (by omega) hB
  have L180 : Hid (MidC (wo19.heap.size) (v3.heap.size) v10 (ya1) (cls n (tr (rdg n dz1))) ((cls n (tr (rdg n dz1))).length)) := L160.out.go (by omega) hB
  have L181 : Hid (MidC (wo34.heap.size) (v4.heap.size) v10 (ch1) (chR n (rdg n dz1)) (n + 1)) := L161.out.go (by omega) hB
  have L182 : Hid (MidC (v4.heap.size) (v5.heap.size) v10 (ch2) (chR n (rdg n (cls n (tr (rdg n dz1))))) (n + 1)) := L162.out.go (by omega) hB
  have L183 : Hid (MidC (wo77.heap.size) (v7.heap.size) v10 (xa4) ([(n : Int), (n : Int)]) (xc4)) := L163.out.go (by omega) hB
  have L184 : Hid (MidC (wo77.heap.size) (v7.heap.size) v10 (ya4) (cls n (tr (rdg n (cls n (ajg n (rdg n dz1)))))) ((cls n (tr (rdg n (cls n (ajg n (rdg n dz1)))))).length)) := L164.out.go (by omega) hB
  have L185 : Hid (MidC (wo113.heap.size) (v8.heap.size) v10 (xa5) ([(n : Int), (n : Int)]) (xc5)) := L165.out.go (by omega) hB
  have L186 : Hid (MidC (wo113.heap.size) (v8.heap.size) v10 (ya5) (cls n (ajg n (rdg n (cls n (tr (rdg n dz1)))))) (yc5)) := L166.out.go (by omega) hB
  have hb187 : Hid (Below w.heap.size w v10) := hb167.out.trans (hB.mono hb167.out.size)
  clear hB hb167 B155 B156 B157 B158 L159 L160 L161 L162 L163 L164 L165 L166
  go_wp2_with fail
  have hb0r1 : Below v10.heap.size v10 v10.drew := (Below.refl _ v10).drew
  refine anyC_begin (fun w' => w'.cell? ⟨w.heap.size, 0, none⟩ = some (.bool false) ∧ w'.cell? ⟨w.heap.size, 1, none⟩ = some (.slice (some ⟨b1, o1, none⟩) 2 sc1) ∧ w'.cell? ⟨w.heap.size, 2, none⟩ = some (.slice da1 dz1.length dc1) ∧ w'.cell? ⟨v3.heap.size, 0, none⟩ = some (.bool false) ∧ w'.cell? ⟨v3.heap.size, 1, none⟩ = some (.slice (xa1) 2 (xc1)) ∧ w'.cell? ⟨v3.heap.size, 2, none⟩ = some (.slice (ya1) (cls n (tr (rdg n dz1))).length yc1)) 28 #[false, false, false, false, false, false, false, false, false, false, false, false, false, false, false, false, false, false, false, false, false, false, false, false, false, false, false, false] (by kernel_rfl) rfl rfl ?_
  refine anyC_put 0 65 ?rv0 #[true, false, false, false, false, false, false, false, false, false, false, false, false, false, false, false, false, false, false, false, false, false, false, false, false, false, false, false] rfl rfl rfl (by kernel_rfl) (by kernel_rfl) (by kernel_rfl) (fun _ _ _ h => h) ?ry0 (⟨(B175.out.go hb0r1).c0, (B175.out.go hb0r1).c1, (B175.out.go hb0r1).c2, (B176.out.go hb0r1).c0, (B176.out.go hb0r1).c1, (B176.out.go hb0r1).c2⟩) ?rm0
  case ry0 => first | exact Or.inl ⟨by rfl, by intro w'; go_simp; first | done | rfl⟩
  case rm0 =>
  simp only [Act.put, List.setIfInBounds_toArray, List.set_cons_zero, List.set_cons_succ]
  refine anyC_put 1 66 ?rv1 #[true, true, false, false, false, false, false, false, false, false, false, false, false, false, false, false, false, false, false, false, false, false, false, false, false, false, false, false] rfl rfl rfl (by kernel_rfl) (by kernel_rfl) (by kernel_rfl) (fun _ _ _ h => h) ?ry1 (⟨(B175.out.go hb0r1).c0, (B175.out.go hb0r1).c1, (B175.out.go hb0r1).c2, (B176.out.go hb0r1).c0, (B176.out.go hb0r1).c1, (B176.out.go hb0r1).c2⟩) ?rm1
  case ry1 => first | exact Or.inl ⟨by rfl, by intro w'; go_simp; first | done | rfl⟩
  case rm1 =>
  simp only [Act.put, List.setIfInBounds_toArray, List.set_cons_zero, List.set_cons_succ]
  refine anyC_put 2 67 ?rv2 #[true, true, true, false, false, false, false, false, false, false, false, false, false, false, false, false, false, false, false, false, false, false, false, false, false, false, false, false] rfl rfl rfl (by kernel_rfl) (by kernel_rfl) (by kernel_rfl) (fun _ _ _ h => h) ?ry2 (⟨(B175.out.go hb0r1).c0, (B175.out.go hb0r1).c1, (B175.out.go hb0r1).c2, (B176.out.go hb0r1).c0, (B176.out.go hb0r1).c1, (B176.out.go hb0r1).c2⟩) ?rm2
  case ry2 => first | exact Or.inl ⟨by rfl, by intro w'; go_simp; first | done | rfl⟩
  case rm2 =>
  simp only [Act.put, List.setIfInBounds_toArray, List.set_cons_zero, List.set_cons_succ]
  refine anyC_put 3 68 ?rv3 #[true, true, true, true, false, false, false, false, false, false, false, false, false, false, false, false, false, false, false, false, false, false, false, false, false, false, false, false] rfl rfl rfl (by kernel_rfl) (by kernel_rfl) (by kernel_rfl) (fun _ _ _ h => h) ?ry3 (⟨(B175.out.go hb0r1).c0, (B175.out.go hb0r1).c1, (B175.out.go hb0r1).c2, (B176.out.go hb0r1).c0, (B176.out.go hb0r1).c1, (B176.out.go hb0r1).c2⟩) ?rm3
  case ry3 => first | exact Or.inl ⟨by rfl, by intro w'; go_simp; first | done | rfl⟩ | exact Or.inr ⟨by rfl, rfl⟩ | exact Or.inr ⟨by rfl, by rfl⟩
  case rm3 =>
  simp only [Act.put, List.setIfInBounds_toArray, List.set_cons_zero, List.set_cons_succ]
  refine anyC_put 4 69 ?rv4 #[true, true, true, true, true, false, false, false, false, false, false, false, false, false, false, false, false, false, false, false, false, false, false, false, false, false, false, false] rfl rfl rfl (by kernel_rfl) (by kernel_rfl) (by kernel_rfl) (fun _ _ _ h => h) ?ry4 (⟨(B175.out.go hb0r1).c0, (B175.out.go hb0r1).c1, (B175.out.go hb0r1).c2, (B176.out.go hb0r1).c0, (B176.out.go hb0r1).c1, (B176.out.go hb0r1).c2⟩) ?rm4
  case ry4 => first | exact Or.inl ⟨by rfl, by intro w'; go_simp; first | done | rfl⟩ | exact Or.inr ⟨by rfl, rfl⟩ | exact Or.inr ⟨by rfl, by rfl⟩
  case rm4 =>
  simp only [Act.put, List.setIfInBounds_toArray, List.set_cons_zero, List.set_cons_succ]
  refine anyC_put 5 70 ?rv5 #[true, true, true, true, true, true, false, false, false, false, false, false, false, false, false, false, false, false, false, false, false, false, false, false, false, false, false, false] rfl rfl rfl (by kernel_rfl) (by kernel_rfl) (by kernel_rfl) (fun _ _ _ h => h) ?ry5 (⟨(B175.out.go hb0r1).c0, (B175.out.go hb0r1).c1, (B175.out.go hb0r1).c2, (B176.out.go hb0r1).c0, (B176.out.go hb0r1).c1, (B176.out.go hb0r1).c2⟩) ?rm5
  case ry5 => first | exact Or.inl ⟨by rfl, by intro w'; go_simp; first | done | rfl⟩
  case rm5 =>
  simp only [Act.put, List.setIfInBounds_toArray, List.set_cons_zero, List.set_cons_succ]
  refine anyC_put 6 71 ?rv6 #[true, true, true, true, true, true, true, false, false, false, false, false, false, false, false, false, false, false, false, false, false, false, false, false, false, false, false, false] rfl rfl rfl (by kernel_rfl) (by kernel_rfl) (by kernel_rfl) (fun _ _ _ h => h) ?ry6 (⟨(B175.out.go hb0r1).c0, (B175.out.go hb0r1).c1, (B175.out.go hb0r1).c2, (B176.out.go hb0r1).c0, (B176.out.go hb0r1).c1, (B176.out.go hb0r1).c2⟩) ?rm6
  case ry6 => first | exact Or.inl ⟨by rfl, by intro w'; go_simp; first | done | rfl⟩
  case rm6 =>
  simp only [Act.put, List.setIfInBounds_toArray, List.set_cons_zero, List.set_cons_succ]
  refine anyC_put 7 72 ?rv7 #[true, true, true, true, true, true, true, true, false, false, false, false, false, false, false, false, false, false, false, false, false, false, false, false, false, false, false, false] rfl rfl rfl (by kernel_rfl) (by kernel_rfl) (by kernel_rfl) (fun _ _ _ h => h) ?ry7 (⟨(B175.out.go hb0r1).c0, (B175.out.go hb0r1).c1, (B175.out.go hb0r1).c2, (B176.out.go hb0r1).c0, (B176.out.go hb0r1).c1, (B176.out.go hb0r1).c2⟩) ?rm7
  case ry7 => first | exact Or.inl ⟨by rfl, by intro w'; go_simp; first | done | rfl⟩ | exact Or.inr ⟨by rfl, rfl⟩ | exact Or.inr ⟨by rfl, by rfl⟩
  case rm7 =>
  simp only [Act.put, List.setIfInBounds_toArray, List.set_cons_zero, List.set_cons_succ]
  refine anyC_put 8 73 ?rv8 #[true, true, true, true, true, true, true, true, true, false, false, false, false, false, false, false, false, false, false, false, false, false, false, false, false, false, false, false] rfl rfl rfl (by kernel_rfl) (by kernel_rfl) (by kernel_rfl) (fun _ _ _ h => h) ?ry8 (⟨(B175.out.go hb0r1).c0, (B175.out.go hb0r1).c1, (B175.out.go hb0r1).c2, (B176.out.go hb0r1).c0, (B176.out.go hb0r1).c1, (B176.out.go hb0r1).c2⟩) ?rm8
  case ry8 => first | exact Or.inl ⟨by rfl, by intro w'; go_simp; first | done | rfl⟩ | exact Or.inr ⟨by rfl, rfl⟩ | exact Or.inr ⟨by rfl, by rfl⟩
  case rm8 =>
  simp only [Act.put, List.setIfInBounds_toArray, List.set_cons_zero, List.set_cons_succ]
  refine anyC_put 9 74 ?rv9 #[true, true, true, true, true, true, true, true, true, true, false, false, false, false, false, false, false, false, false, false, false, false, false, false, false, false, false, false] rfl rfl rfl (by kernel_rfl) (by kernel_rfl) (by kernel_rfl) (fun _ _ _ h => h) ?ry9 (⟨(B175.out.go hb0r1).c0, (B175.out.go hb0r1).c1, (B175.out.go hb0r1).c2, (B176.out.go hb0r1).c0, (B176.out.go hb0r1).c1, (B176.out.go hb0r1).c2⟩) ?rm9
  case ry9 => first | exact Or.inl ⟨by rfl, by intro w'; go_simp; first | done | rfl⟩
  case rm9 =>
  simp only [Act.put, List.setIfInBounds_toArray, List.set_cons_zero, List.set_cons_succ]
  refine anyC_put 10 75 ?rv10 #[true, true, true, true, true, true, true, true, true, true, true, false, false, false, false, false, false, false, false, false, false, false, false, false, false, false, false, false] rfl rfl rfl (by kernel_rfl) (by kernel_rfl) (by kernel_rfl) (fun _ _ _ h => h) ?ry10 (⟨(B175.out.go hb0r1).c0, (B175.out.go hb0r1).c1, (B175.out.go hb0r1).c2, (B176.out.go hb0r1).c0, (B176.out.go hb0r1).c1, (B176.out.go hb0r1).c2⟩) ?rm10
  case ry10 => first | exact Or.inl ⟨by rfl, by intro w'; go_simp; first | done | rfl⟩
  case rm10 =>
  simp only [Act.put, List.setIfInBounds_toArray, List.set_cons_zero, List.set_cons_succ]
  refine anyC_put 11 76 ?rv11 #[true, true, true, true, true, true, true, true, true, true, true, true, false, false, false, false, false, false, false, false, false, false, false, false, false, false, false, false] rfl rfl rfl (by kernel_rfl) (by kernel_rfl) (by kernel_rfl) (fun _ _ _ h => h) ?ry11 (⟨(B175.out.go hb0r1).c0, (B175.out.go hb0r1).c1, (B175.out.go hb0r1).c2, (B176.out.go hb0r1).c0, (B176.out.go hb0r1).c1, (B176.out.go hb0r1).c2⟩) ?rm11
  case ry11 => first | exact Or.inl ⟨by rfl, by intro w'; go_simp; first | done | rfl⟩ | exact Or.inr ⟨by rfl, rfl⟩ | exact Or.inr ⟨by rfl, by rfl⟩
  case rm11 =>
  simp only [Act.put, List.setIfInBounds_toArray, List.set_cons_zero, List.set_cons_succ]
  refine anyC_put 12 77 ?rv12 #[true, true, true, true, true, true, true, true, true, true, true, true, true, false, false, false, false, false, false, false, false, false, false, false, false, false, false, false] rfl rfl rfl (by kernel_rfl) (by kernel_rfl) (by kernel_rfl) (fun _ _ _ h => h) ?ry12 (⟨(B175.out.go hb0r1).c0, (B175.out.go hb0r1).c1, (B175.out.go hb0r1).c2, (B176.out.go hb0r1).c0, (B176.out.go hb0r1).c1, (B176.out.go hb0r1).c2⟩) ?rm12
  case ry12 => first | exact Or.inl ⟨by rfl, by intro w'; go_simp; first | done | rfl⟩ | exact Or.inr ⟨by rfl, rfl⟩ | exact Or.inr ⟨by rfl, by rfl⟩
  case rm12 =>
  simp only [Act.put, List.setIfInBounds_toArray, List.set_cons_zero, List.set_cons_succ]
  refine anyC_put 13 78 ?rv13 #[true, true, true, true, true, true, true, true, true, true, true, true, true, true, false, false, false, false, false, false, false, false, false, false, false, false, false, false] rfl rfl rfl (by kernel_rfl) (by kernel_rfl) (by kernel_rfl) (fun _ _ _ h => h) ?ry13 (⟨(B175.out.go hb0r1).c0, (B175.out.go hb0r1).c1, (B175.out.go hb0r1).c2, (B176.out.go hb0r1).c0, (B176.out.go hb0r1).c1, (B176.out.go hb0r1).c2⟩) ?rm13
  case ry13 => first | exact Or.inl ⟨by rfl, by intro w'; go_simp; first | done | rfl⟩
  case rm13 =>
  simp only [Act.put, List.setIfInBounds_toArray, List.set_cons_zero, List.set_cons_succ]
  refine anyC_put 14 79 ?rv14 #[true, true, true, true, true, true, true, true, true, true, true, true, true, true, true, false, false, false, false, false, false, false, false, false, false, false, false, false] rfl rfl rfl (by kernel_rfl) (by kernel_rfl) (by kernel_rfl) (fun _ _ _ h => h) ?ry14 (⟨(B175.out.go hb0r1).c0, (B175.out.go hb0r1).c1, (B175.out.go hb0r1).c2, (B176.out.go hb0r1).c0, (B176.out.go hb0r1).c1, (B176.out.go hb0r1).c2⟩) ?rm14
  case ry14 => first | exact Or.inl ⟨by rfl, by intro w'; go_simp; first | done | rfl⟩
  case rm14 =>
  simp only [Act.put, List.setIfInBounds_toArray, List.set_cons_zero, List.set_cons_succ]
  refine anyC_put 15 80 ?rv15 #[true, true, true, true, true, true, true, true, true, true, true, true, true, true, true, true, false, false, false, false, false, false, false, false, false, false, false, false] rfl rfl rfl (by kernel_rfl) (by kernel_rfl) (by kernel_rfl) (fun _ _ _ h => h) ?ry15 (⟨(B175.out.go hb0r1).c0, (B175.out.go hb0r1).c1, (B175.out.go hb0r1).c2, (B176.out.go hb0r1).c0, (B176.out.go hb0r1).c1, (B176.out.go hb0r1).c2⟩) ?rm15
  case ry15 => first | exact Or.inl ⟨by rfl, by intro w'; go_simp; first | done | rfl⟩ | exact Or.inr ⟨by rfl, rfl⟩ | exact Or.inr ⟨by rfl, by rfl⟩
  case rm15 =>
  simp only [Act.put, List.setIfInBounds_toArray, List.set_cons_zero, List.set_cons_succ]
  refine anyC_put 16 81 ?rv16 #[true, true, true, true, true, true, true, true, true, true, true, true, true, true, true, true, true, false, false, false, false, false, false, false, false, false, false, false] rfl rfl rfl (by kernel_rfl) (by kernel_rfl) (by kernel_rfl) (fun _ _ _ h => h) ?ry16 (⟨(B175.out.go hb0r1).c0, (B175.out.go hb0r1).c1, (B175.out.go hb0r1).c2, (B176.out.go hb0r1).c0, (B176.out.go hb0r1).c1, (B176.out.go hb0r1).c2⟩) ?rm16
  case ry16 => first | exact Or.inl ⟨by rfl, by intro w'; go_simp; first | done | rfl⟩
  case rm16 =>
  simp only [Act.put, List.setIfInBounds_toArray, List.set_cons_zero, List.set_cons_succ]
  refine anyC_put 17 82 ?rv17 #[true, true, true, true, true, true, true, true, true, true, true, true, true, true, true, true, true, true, false, false, false, false, false, false, false, false, false, false] rfl rfl rfl (by kernel_rfl) (by kernel_rfl) (by kernel_rfl) (fun _ _ _ h => h) ?ry17 (⟨(B175.out.go hb0r1).c0, (B175.out.go hb0r1).c1, (B175.out.go hb0r1).c2, (B176.out.go hb0r1).c0, (B176.out.go hb0r1).c1, (B176.out.go hb0r1).c2⟩) ?rm17
  case ry17 => first | exact Or.inl ⟨by rfl, by intro w'; go_simp; first | done | rfl⟩
  case rm17 =>
  simp only [Act.put, List.setIfInBounds_toArray, List.set_cons_zero, List.set_cons_succ]
  refine anyC_put 18 83 ?rv18 #[true, true, true, true, true, true, true, true, true, true, true, true, true, true, true, true, true, true, true, false, false, false, false, false, false, false, false, false] rfl rfl rfl (by kernel_rfl) (by kernel_rfl) (by kernel_rfl) (fun _ _ _ h => h) ?ry18 (⟨(B175.out.go hb0r1).c0, (B175.out.go hb0r1).c1, (B175.out.go hb0r1).c2, (B176.out.go hb0r1).c0, (B176.out.go hb0r1).c1, (B176.out.go hb0r1).c2⟩) ?rm18
  case ry18 => first | exact Or.inl ⟨by rfl, by intro w'; go_simp; first | done | rfl⟩ | exact Or.inr ⟨by rfl, rfl⟩ | exact Or.inr ⟨by rfl, by rfl⟩
  case rm18 =>
  simp only [Act.put, List.setIfInBounds_toArray, List.set_cons_zero, List.set_cons_succ]
  refine anyC_put 19 84 ?rv19 #[true, true, true, true, true, true, true, true, true, true, true, true, true, true, true, true, true, true, true, true, false, false, false, false, false, false, false, false] rfl rfl rfl (by kernel_rfl) (by kernel_rfl) (by kernel_rfl) (fun _ _ _ h => h) ?ry19 (⟨(B175.out.go hb0r1).c0, (B175.out.go hb0r1).c1, (B175.out.go hb0r1).c2, (B176.out.go hb0r1).c0, (B176.out.go hb0r1).c1, (B176.out.go hb0r1).c2⟩) ?rm19
  case ry19 => first | exact Or.inl ⟨by rfl, by intro w'; go_simp; first | done | rfl⟩
  case rm19 =>
  simp only [Act.put, List.setIfInBounds_toArray, List.set_cons_zero, List.set_cons_succ]
  refine anyC_put 20 85 ?rv20 #[true, true, true, true, true, true, true, true, true, true, true, true, true, true, true, true, true, true, true, true, true, false, false, false, false, false, false, false] rfl rfl rfl (by kernel_rfl) (by kernel_rfl) (by kernel_rfl) (fun _ _ _ h => h) ?ry20 (⟨(B175.out.go hb0r1).c0, (B175.out.go hb0r1).c1, (B175.out.go hb0r1).c2, (B176.out.go hb0r1).c0, (B176.out.go hb0r1).c1, (B176.out.go hb0r1).c2⟩) ?rm20
  case ry20 => first | exact Or.inl ⟨by rfl, by intro w'; go_simp; first | done | rfl⟩
  case rm20 =>
  simp only [Act.put, List.setIfInBounds_toArray, List.set_cons_zero, List.set_cons_succ]
  refine anyC_take 21 86 ?rv21 #[true, true, true, true, true, true, true, true, true, true, true, true, true, true, true, true, true, true, true, true, true, true, false, false, false, false, false, false] rfl rfl rfl (by kernel_rfl) (by kernel_rfl) (by kernel_rfl) (fun _ _ _ h => h) ?ry21 (⟨(B175.out.go hb0r1).c0, (B175.out.go hb0r1).c1, (B175.out.go hb0r1).c2, (B176.out.go hb0r1).c0, (B176.out.go hb0r1).c1, (B176.out.go hb0r1).c2⟩) ?rm21
  case ry21 => first | exact Or.inl ⟨by rfl, by intro w' hw'; (try dsimp only at hw'); go_simp; first | done | rfl⟩ | exact Or.inr ⟨by rfl, rfl⟩ | exact Or.inr ⟨by rfl, by rfl⟩
  case rm21 =>
  simp only [Act.put, List.setIfInBounds_toArray, List.set_cons_zero, List.set_cons_succ]
  refine anyC_take 23 88 ?rv22 #[true, true, true, true, true, true, true, true, true, true, true, true, true, true, true, true, true, true, true, true, true, true, false, true, false, false, false, false] rfl rfl rfl (by kernel_rfl) (by kernel_rfl) (by kernel_rfl) (fun _ _ _ h => h) ?ry22 (⟨(B175.out.go hb0r1).c0, (B175.out.go hb0r1).c1, (B175.out.go hb0r1).c2, (B176.out.go hb0r1).c0, (B176.out.go hb0r1).c1, (B176.out.go hb0r1).c2⟩) ?rm22
  case ry22 => first | exact Or.inl ⟨by rfl, by intro w' hw'; (try dsimp only at hw'); go_simp; first | done | rfl⟩ | exact Or.inr ⟨by rfl, rfl⟩ | exact Or.inr ⟨by rfl, by rfl⟩
  case rm22 =>
  simp only [Act.put, List.setIfInBounds_toArray, List.set_cons_zero, List.set_cons_succ]
  refine anyC_one 22 #[true, true, true, true, true, true, true, true, true, true, true, true, true, true, true, true, true, true, true, true, true, true, true, true, false, false, false, false] (by kernel_rfl) rfl rfl (fun K hK => ?_)
  go_simp
  go_wp2_with (go_at_call 16; refine (sdet_any n hn (some ⟨b1, o1, none⟩) sc1 da1 dc1 dz1 dz1.length rfl HL1.out _ ((HI1.out.1.below (hb187.out.trans (hb0r1.mono hb187.out.size))).mono (hb187.out.trans (hb0r1.mono hb187.out.size)).size).1 ((HI1.out.2.1.below (hb187.out.trans (hb0r1.mono hb187.out.size))).mono (hb187.out.trans (hb0r1.mono hb187.out.size)).size).1).mono ?_; rintro e y1r1 ⟨rfl, hBy1r1⟩)
  have hby1r1 : Below v10.heap.size v10 y1r1 := hb0r1.trans (hBy1r1.mono hb0r1.size)
  refine hK.out _ _ (⟨(B175.out.go hby1r1).c0, (B175.out.go hby1r1).c1, (B175.out.go hby1r1).c2, (B176.out.go hby1r1).c0, (B176.out.go hby1r1).c1, (B176.out.go hby1r1).c2⟩) ?_
  clear hK K
  refine anyC_one 24 #[true, true, true, true, true, true, true, true, true, true, true, true, true, true, true, true, true, true, true, true, true, true, true, true, true, false, false, false] (by kernel_rfl) rfl rfl (fun K hK => ?_)
  go_simp
  go_wp2_with (go_at_call 16; refine (sdet_any n hn (xa1) (xc1) (ya1) yc1 (cls n (tr (rdg n dz1))) (cls n (tr (rdg n dz1))).length rfl (cls_len n _) _ ((L179.out.go (by omega) hby1r1).is (by have := hby1r1.size; omega)).1 ((L180.out.go (by omega) hby1r1).is (by have := hby1r1.size; omega)).1).mono ?_; rintro e y2r1 ⟨rfl, hBy2r1⟩)
  have hby2r1 : Below v10.heap.size v10 y2r1 := hby1r1.trans (hBy2r1.mono hby1r1.size)
  refine hK.out _ _ (⟨(B175.out.go hby2r1).c0, (B175.out.go hby2r1).c1, (B175.out.go hby2r1).c2, (B176.out.go hby2r1).c0, (B176.out.go hby2r1).c1, (B176.out.go hby2r1).c2⟩) ?_
  clear hK K
  refine anyC_put 25 90 ?rv25 #[true, true, true, true, true, true, true, true, true, true, true, true, true, true, true, true, true, true, true, true, true, true, true, true, true, true, false, false] rfl rfl rfl (by kernel_rfl) (by kernel_rfl) (by kernel_rfl) (fun _ _ _ h => h) ?ry25 (⟨(B175.out.go hby2r1).c0, (B175.out.go hby2r1).c1, (B175.out.go hby2r1).c2, (B176.out.go hby2r1).c0, (B176.out.go hby2r1).c1, (B176.out.go hby2r1).c2⟩) ?rm25
  case ry25 => first | exact Or.inl ⟨by rfl, by intro w'; go_simp; first | done | rfl⟩ | exact Or.inr ⟨by rfl, rfl⟩ | exact Or.inr ⟨by rfl, by rfl⟩
  case rm25 =>
  simp only [Act.put, List.setIfInBounds_toArray, List.set_cons_zero, List.set_cons_succ]
  refine anyC_put 26 91 ?rv26 #[true, true, true, true, true, true, true, true, true, true, true, true, true, true, true, true, true, true, true, true, true, true, true, true, true, true, true, false] rfl rfl rfl (by kernel_rfl) (by kernel_rfl) (by kernel_rfl) (fun _ _ _ h => h) ?ry26 (⟨(B175.out.go hby2r1).c0, (B175.out.go hby2r1).c1, (B175.out.go hby2r1).c2, (B176.out.go hby2r1).c0, (B176.out.go hby2r1).c1, (B176.out.go hby2r1).c2⟩) ?rm26
  case ry26 => first | exact Or.inl ⟨by rfl, by intro w'; go_simp; first | done | rfl⟩
  case rm26 =>
  simp only [Act.put, List.setIfInBounds_toArray, List.set_cons_zero, List.set_cons_succ]
  refine anyC_put 27 2 ?rv27 #[true, true, true, true, true, true, true, true, true, true, true, true, true, true, true, true, true, true, true, true, true, true, true, true, true, true, true, true] rfl rfl rfl (by kernel_rfl) (by kernel_rfl) (by kernel_rfl) (fun _ _ _ h => h) ?ry27 (⟨(B175.out.go hby2r1).c0, (B175.out.go hby2r1).c1, (B175.out.go hby2r1).c2, (B176.out.go hby2r1).c0, (B176.out.go hby2r1).c1, (B176.out.go hby2r1).c2⟩) ?rm27
  case ry27 => first | exact Or.inl ⟨by rfl, by intro w'; go_simp; first | done | rfl⟩
  case rm27 =>
  simp only [Act.put, List.setIfInBounds_toArray, List.set_cons_zero, List.set_cons_succ]
  refine anyC_done (by kernel_rfl) ?_
  have hB := hby2r1
  have z188 : v10.heap.size ≤ y2r1.heap.size := hB.size
  have B189 : Hid (Abx y2r1 (w.heap.size) (.bool false) (.slice (some ⟨b1, o1, none⟩) 2 sc1) (.slice da1 dz1.length dc1)) := B175.out.go hB
  have B190 : Hid (Abx y2r1 (v3.heap.size) (.bool false) (.slice (xa1) 2 (xc1)) (.slice (ya1) (cls n (tr (rdg n dz1))).length yc1)) := B176.out.go hB
  have B191 : Hid (Abx y2r1 (v6.heap.size) (.bool false) (.slice (xa4) 2 (xc4)) (.slice (ya4) (cls n (tr (rdg n (cls n (ajg n (rdg n dz1)))))).length yc4)) := B177.out.go hB
  have B192 : Hid (Abx y2r1 (v8.heap.size) (.bool false) (.slice (xa5) 2 (xc5)) (.slice (ya5) (cls n (ajg n (rdg n (cls n (tr (rdg n dz1)))))).length (yc5))) := B178.out.go hB
  have L193 : Hid (MidC (wo19.heap.size) (v3.heap.size) y2r1 (xa1) ([(n : Int), (n : Int)]) (xc1)) := L179.out.go (by omega) hB
  have L194 : Hid (MidC (wo19.heap.size) (v3.heap.size) y2r1 (ya1) (cls n (tr (rdg n dz1))) ((cls n (tr (rdg n dz1))).length)) := L180.out.go (by omega) hB
  have L195 : Hid (MidC (wo34.heap.size) (v4.heap.size) y2r1 (ch1) (chR n (rdg n dz1)) (n + 1)) := L181.out.go (by omega) hB
  have L196 : Hid (MidC (v4.heap.size) (v5.heap.size) y2r1 (ch2) (chR n (rdg n (cls n (tr (rdg n dz1))))) (n + 1)) := L182.out.go (by omega) hB
  have L197 : Hid (MidC (wo77.heap.size) (v7.heap.size) y2r1 (xa4) ([(n : Int), (n : Int)]) (xc4)) := L183.out.go (by omega) hB
  have L198 : Hid (MidC (wo77.heap.size) (v7.heap.size) y2r1 (ya4) (cls n (tr (rdg n (cls n (ajg n (rdg n dz1)))))) ((cls n (tr (rdg n (cls n (ajg n (rdg n dz1)))))).length)) := L184.out.go (by omega) hB
  have L199 : Hid (MidC (wo113.heap.size) (v8.heap.size) y2r1 (xa5) ([(n : Int), (n : Int)]) (xc5)) := L185.out.go (by omega) hB
  have L200 : Hid (MidC (wo113.heap.size) (v8.heap.size) y2r1 (ya5) (cls n (ajg n (rdg n (cls n (tr (rdg n dz1)))))) (yc5)) := L186.out.go (by omega) hB
  have hb201 : Hid (Below w.heap.size w y2r1) := hb187.out.trans (hB.mono hb187.out.size)
  clear hB hb187 B175 B176 B177 B178 L179 L180 L181 L182 L183 L184 L185 L186
  go_wp2_with fail
  go_ret
  refine ⟨ret_bool ?_, hb201.out⟩
  rw [dt_turned]
  simp
theorem mturn_walk (HFl : CFl) (c1 : Bool) (sa1 : Option Addr) (sc1 : Nat) (sz1 : List Int) (da1 : Option Addr) (dc1 : Nat) (dz1 : List Int) (w : World) (w8 : IsArrD w sa1 sz1 sc1 da1 dz1 dc1) :
    Calls Try.prog 4 #[.agg #[.bool c1, .slice sa1 sz1.length sc1, .slice da1 dz1.length dc1]] w fun e w' => e = .returned (.bool true) ∧ Below w.heap.size w w' := by
  by_cases h1 : SqP c1 sz1 dz1
  · obtain ⟨n, hn, rfl, hl1, rfl⟩ := h1
    obtain ⟨b1, o1, rfl⟩ := opn14 w8.2.2.1
    exact turn_ok HFl n hn b1 o1 sc1 da1 dc1 dz1 hl1 w ⟨w8.2.2.1, w8.2.2.2.1, w8.2.2.2.2.2⟩
  · exact turn_a HFl c1 sa1 sc1 sz1 da1 dc1 dz1 w w8 h1
end Go.Proofs.Ytjaabemlpiafaab
