/-
  The walk of the statement ReachAlike, given what the program tells.
-/
import Derived.BigQuiet
import Derived.Test.YtgaelbgeoobgiaaRlw
import Derived.Test.YtgaelbgeoobgiaaMidc
import Derived.Test.YtgaelbgeoobgiaaCutq
namespace Go.Proofs.Ytgaelbgeoobgiaa
open Go.RowKit
set_option linter.unusedVariables false

theorem shp14 {w v : World} {b o n sc : Nat} (h : IsC w.heap.size w (some ⟨b, o, none⟩) [(n : Int), (n : Int)] sc) (hB : Below w.heap.size w v) : b < w.heap.size ∧ v.cell? ⟨b, o, none⟩ = some (.int .i64 (n : Int)) := by
  obtain ⟨b', o', e, hb, hc⟩ := (h.1.below hB).at (q := 0) (by simp)
  cases e
  have h0 := hc 0 (by simp)
  rw [Nat.add_zero] at h0
  exact ⟨hb, h0⟩
theorem opn14 {w : World} {sa : Option Addr} {n sc : Nat} (h : IsC w.heap.size w sa [(n : Int), (n : Int)] sc) : ∃ b o, sa = some ⟨b, o, none⟩ := by
  obtain ⟨b, o, e, _, _⟩ := h.1.at (q := 0) (by simp)
  exact ⟨b, o, e⟩
set_option maxRecDepth 100000 in
set_option maxHeartbeats 2000000 in
theorem alik_no (c1 : Bool) (sa1 : Option Addr) (sc1 : Nat) (sz1 : List Int) (da1 : Option Addr) (dc1 : Nat) (dz1 : List Int) (w : World) (w8 : IsArrD w sa1 sz1 sc1 da1 dz1 dc1) (h0 : rlE c1 sz1 dz1 ≠ 0) :
    Calls Try.prog 5 #[.agg #[.bool c1, .slice sa1 sz1.length sc1, .slice da1 dz1.length dc1]] w fun e w' => e = .returned (.bool true) ∧ Below w.heap.size w w' := by
  have HI1 : Hid (IsC w.heap.size w sa1 sz1 sc1 ∧ IsC w.heap.size w da1 dz1 dc1) := ⟨w8.2.2.1, w8.2.2.2.1⟩
  have HNe : Hid (rlE c1 sz1 dz1 ≠ 0) := h0
  clear h0
  have n1 := Abx.new w (.bool c1) (.slice sa1 sz1.length sc1) (.slice da1 dz1.length dc1)
  go_enter Try.func5, Try.ntmps5
  go_wp2_with fail
  obtain ⟨wo2, hwo2⟩ : ∃ wo2, wo2 = (w.alloc (.cells #[.bool c1, .slice sa1 sz1.length sc1, .slice da1 dz1.length dc1] 24)) := ⟨_, rfl⟩
  rw [← hwo2]
  have z3 : w.heap.size + 1 ≤ wo2.heap.size := by rw [hwo2]; simp only [World.size_alloc]; omega
  have B4 : Hid (Abx wo2 (w.heap.size) (.bool c1) (.slice sa1 sz1.length sc1) (.slice da1 dz1.length dc1)) := by rw [hwo2]; exact n1
  have hb5 : Hid (Below w.heap.size w wo2) := by rw [hwo2]; exact ((Below.refl w.heap.size w).alloc (by omega) (.cells #[.bool c1, .slice sa1 sz1.length sc1, .slice da1 dz1.length dc1] 24))
  have zwo2 : w.heap.size ≤ wo2.heap.size := hb5.out.size
  clear hwo2 n1
  refine (chain_any _).mono ?_
  rintro e v1 ⟨rfl, hB⟩
  have z6 : wo2.heap.size ≤ v1.heap.size := hB.size
  have B7 : Hid (Abx v1 (w.heap.size) (.bool c1) (.slice sa1 sz1.length sc1) (.slice da1 dz1.length dc1)) := B4.out.go hB
  have hb8 : Hid (Below w.heap.size w v1) := hb5.out.trans (hB.mono hb5.out.size)
  clear hB hb5 B4
  have l9 := (B7.out).c0
  have l10 := (B7.out).c1
  have l11 := (B7.out).c2
  go_wp2_with fail
  clear l9 l10 l11
  refine (cla_no c1 sa1 sc1 sz1 da1 dc1 dz1 _ w8.1 w8.2.1 ((HI1.out.1.below hb8.out).mono hb8.out.size).1 ((HI1.out.2.below hb8.out).mono hb8.out.size).1 HNe.out).mono ?_
  rintro e v2 ⟨rfl, hB⟩
  have z12 : v1.heap.size ≤ v2.heap.size := hB.size
  have B13 : Hid (Abx v2 (w.heap.size) (.bool c1) (.slice sa1 sz1.length sc1) (.slice da1 dz1.length dc1)) := B7.out.go hB
  have hb14 : Hid (Below w.heap.size w v2) := hb8.out.trans (hB.mono hb8.out.size)
  clear hB hb8 B7
  go_wp2_with fail
  go_ret
  exact ⟨rfl, hb14.out⟩
set_option maxRecDepth 100000 in
set_option maxHeartbeats 2000000 in
theorem alik_ok (n : Nat) (hn : n ≤ 24) (b1 o1 sc1 : Nat) (da1 : Option Addr) (dc1 : Nat) (dz1 : List Int) (HL1 : Hid (dz1.length = n * n)) (w : World) (HI1 : Hid (IsC w.heap.size w (some ⟨b1, o1, none⟩) [(n : Int), (n : Int)] sc1 ∧ IsC w.heap.size w da1 dz1 dc1 ∧ ∀ j, In64 (nth dz1 j))) (hk1 : mskB dz1 = true) :
    Calls Try.prog 5 #[.agg #[.bool false, .slice (some ⟨b1, o1, none⟩) 2 sc1, .slice da1 dz1.length dc1]] w fun e w' => e = .returned (.bool true) ∧ Below w.heap.size w w' := by
  have HK1 : Hid (mskB dz1 = true) := hk1
  obtain ⟨N, hN⟩ : ∃ N, N = n * n := ⟨_, rfl⟩
  have N576 : N ≤ 576 := by have : n * n ≤ 24 * 24 := Nat.mul_le_mul hn hn; omega
  have HN : Hid (N = n * n ∧ dz1.length = N) := ⟨hN, by rw [HL1.out, hN]⟩
  clear hN
  have hmul : (n : Int) * (n : Int) = (N : Int) := by rw [HN.out.1]; simp
  have HSh : Hid (∀ v, Below w.heap.size w v → v.cell? ⟨b1, o1, none⟩ = some (.int .i64 (n : Int))) := fun v h => (shp14 HI1.out.1 h).2
  have HLp : Hid ((clL n (clB (rdR n dz1) n)).length = N) := by show _ = _; rw [clL_len, HN.out.1]
  clear hk1
  rw [HN.out.2]
  have n1 := Abx.new w (.bool false) (.slice (some ⟨b1, o1, none⟩) 2 sc1) (.slice da1 N dc1)
  go_enter Try.func5, Try.ntmps5
  go_wp2_with fail
  obtain ⟨wo2, hwo2⟩ : ∃ wo2, wo2 = (w.alloc (.cells #[.bool false, .slice (some ⟨b1, o1, none⟩) 2 sc1, .slice da1 N dc1] 24)) := ⟨_, rfl⟩
  rw [← hwo2]
  have z3 : w.heap.size + 1 ≤ wo2.heap.size := by rw [hwo2]; simp only [World.size_alloc]; omega
  have B4 : Hid (Abx wo2 (w.heap.size) (.bool false) (.slice (some ⟨b1, o1, none⟩) 2 sc1) (.slice da1 N dc1)) := by rw [hwo2]; exact n1
  have hb5 : Hid (Below w.heap.size w wo2) := by rw [hwo2]; exact ((Below.refl w.heap.size w).alloc (by omega) (.cells #[.bool false, .slice (some ⟨b1, o1, none⟩) 2 sc1, .slice da1 N dc1] 24))
  have zwo2 : w.heap.size ≤ wo2.heap.size := hb5.out.size
  clear hwo2 n1
  refine (chain_any _).mono ?_
  rintro e v1 ⟨rfl, hB⟩
  have z6 : wo2.heap.size ≤ v1.heap.size := hB.size
  have B7 : Hid (Abx v1 (w.heap.size) (.bool false) (.slice (some ⟨b1, o1, none⟩) 2 sc1) (.slice da1 N dc1)) := B4.out.go hB
  have hb8 : Hid (Below w.heap.size w v1) := hb5.out.trans (hB.mono hb5.out.size)
  clear hB hb5 B4
  have l9 := (B7.out).c0
  have l10 := (B7.out).c1
  have l11 := (B7.out).c2
  go_wp2_with fail
  clear l9 l10 l11
  refine (cla_ok n hn (some ⟨b1, o1, none⟩) sc1 da1 dc1 dz1 N HN.out.2 HL1.out HK1.out _ ((HI1.out.1.below hb8.out).mono hb8.out.size).1 ((HI1.out.2.1.below hb8.out).mono hb8.out.size).1).mono ?_
  rintro e v2 ⟨xa4, rfl, hX4, hB⟩
  have z12 : v1.heap.size ≤ v2.heap.size := hB.size
  have B13 : Hid (Abx v2 (w.heap.size) (.bool false) (.slice (some ⟨b1, o1, none⟩) 2 sc1) (.slice da1 N dc1)) := B7.out.go hB
  have hb14 : Hid (Below w.heap.size w v2) := hb8.out.trans (hB.mono hb8.out.size)
  have L15 : Hid (MidC (v1.heap.size) (v2.heap.size) v2 (xa4) (csL n (rdR n dz1)) (n)) := hX4.midc
  clear hB hb8 B7 hX4
  have l16 := (B13.out).c0
  have l17 := (B13.out).c1
  have l18 := (B13.out).c2
  go_wp2_with fail
  clear l16 l17 l18
  refine (clo_ok n hn (some ⟨b1, o1, none⟩) sc1 da1 dc1 dz1 N HN.out.2 HL1.out HK1.out _ ((HI1.out.1.below hb14.out).mono hb14.out.size).1 ((HI1.out.2.1.below hb14.out).mono hb14.out.size).1).mono ?_
  rintro e v3 ⟨xa1, xc1, ya1, yc1, rfl, hX1, hY1, hB⟩
  have z19 : v2.heap.size ≤ v3.heap.size := hB.size
  have B20 : Hid (Abx v3 (w.heap.size) (.bool false) (.slice (some ⟨b1, o1, none⟩) 2 sc1) (.slice da1 N dc1)) := B13.out.go hB
  have L21 : Hid (MidC (v1.heap.size) (v2.heap.size) v3 (xa4) (csL n (rdR n dz1)) (n)) := L15.out.go (by omega) hB
  have hb22 : Hid (Below w.heap.size w v3) := hb14.out.trans (hB.mono hb14.out.size)
  have L23 : Hid (MidC (v2.heap.size) (v3.heap.size) v3 (xa1) ([(n : Int), (n : Int)]) (xc1)) := hX1.midc
  have L24 : Hid (MidC (v2.heap.size) (v3.heap.size) v3 (ya1) (clL n (clB (rdR n dz1) n)) (yc1)) := hY1.midc
  clear hB hb14 B13 L15 hX1 hY1
  rw [HLp.out]
  have n25 := Abx.new v3 (.bool false) (.slice (xa1) 2 (xc1)) (.slice (ya1) (N) (yc1))
  have l26 := ((B20.out.al (.cells #[.bool false, .slice (xa1) 2 (xc1), .slice (ya1) (N) (yc1)] 24))).c0
  have l27 := ((B20.out.al (.cells #[.bool false, .slice (xa1) 2 (xc1), .slice (ya1) (N) (yc1)] 24))).c1
  have l28 := ((B20.out.al (.cells #[.bool false, .slice (xa1) 2 (xc1), .slice (ya1) (N) (yc1)] 24))).c2
  have l29 := HSh.out _ (hb22.out.alloc (by omega) (.cells #[.bool false, .slice (xa1) 2 (xc1), .slice (ya1) (N) (yc1)] 24))
  have l30 := (n25).c0
  have l31 := (n25).c1
  have l32 := (n25).c2
  go_wp2_with fail
  obtain ⟨wo33, hwo33⟩ : ∃ wo33, wo33 = (v3.alloc (.cells #[.bool false, .slice (xa1) 2 (xc1), .slice (ya1) (N) (yc1)] 24)) := ⟨_, rfl⟩
  rw [← hwo33]
  have z34 : v3.heap.size + 1 ≤ wo33.heap.size := by rw [hwo33]; simp only [World.size_alloc]; omega
  have B35 : Hid (Abx wo33 (w.heap.size) (.bool false) (.slice (some ⟨b1, o1, none⟩) 2 sc1) (.slice da1 N dc1)) := by rw [hwo33]; exact (B20.out.al (.cells #[.bool false, .slice (xa1) 2 (xc1), .slice (ya1) (N) (yc1)] 24))
  have B36 : Hid (Abx wo33 (v3.heap.size) (.bool false) (.slice (xa1) 2 (xc1)) (.slice (ya1) (N) (yc1))) := by rw [hwo33]; exact n25
  have L37 : Hid (MidC (v1.heap.size) (v2.heap.size) wo33 (xa4) (csL n (rdR n dz1)) (n)) := by rw [hwo33]; exact (L21.out.al (by omega) (.cells #[.bool false, .slice (xa1) 2 (xc1), .slice (ya1) (N) (yc1)] 24))
  have L38 : Hid (MidC (v2.heap.size) (v3.heap.size) wo33 (xa1) ([(n : Int), (n : Int)]) (xc1)) := by rw [hwo33]; exact (L23.out.al (by omega) (.cells #[.bool false, .slice (xa1) 2 (xc1), .slice (ya1) (N) (yc1)] 24))
  have L39 : Hid (MidC (v2.heap.size) (v3.heap.size) wo33 (ya1) (clL n (clB (rdR n dz1) n)) (yc1)) := by rw [hwo33]; exact (L24.out.al (by omega) (.cells #[.bool false, .slice (xa1) 2 (xc1), .slice (ya1) (N) (yc1)] 24))
  have hb40 : Hid (Below w.heap.size w wo33) := by rw [hwo33]; exact (hb22.out.alloc (by omega) (.cells #[.bool false, .slice (xa1) 2 (xc1), .slice (ya1) (N) (yc1)] 24))
  have zwo33 : w.heap.size ≤ wo33.heap.size := hb40.out.size
  clear hwo33 n25 l26 l27 l28 l29 l30 l31 l32 hb22 B20 L21 L23 L24
  obtain ⟨R, hR⟩ : ∃ R, R = rdR n dz1 := ⟨_, rfl⟩
  obtain ⟨D, hD⟩ : ∃ D, D = clL n (clB (rdR n dz1) n) := ⟨_, rfl⟩
  obtain ⟨C, hC⟩ : ∃ C, C = csL n (rdR n dz1) := ⟨_, rfl⟩
  have LYD : Hid (MidC (v2.heap.size) (v3.heap.size) wo33 (ya1) D (yc1)) := by rw [hD]; exact L39.out
  have LCC : Hid (MidC (v1.heap.size) (v2.heap.size) wo33 (xa4) C (n)) := by rw [hC]; exact L37.out
  have HD : Hid (D.length = N ∧ ∀ a, a < n → ∀ b, b < n → nth D (a * n + b) = bI (clB R n a b)) := ⟨by rw [hD]; exact HLp.out, fun a ha b hb => by rw [hD, hR, clL_at _ ha hb]⟩
  have HC : Hid (C.length = n ∧ ∀ a, a < n → nth C a = ((cls R n a : Nat) : Int)) := ⟨by rw [hC, csL_len], fun a ha => by rw [hC, hR, csL_nth ha]⟩
  clear hR hD hC
  have zl : v3.heap.size ≤ wo33.heap.size := by omega
  have zc : v2.heap.size ≤ wo33.heap.size := by omega
  go_loopw [9] (fun q wr => Below wo33.heap.size wo33 wr ∧ ∃ i : Nat, i ≤ n ∧ q = .int .i64 (i : Nat)) (fun q _ => n - (intOf q).toNat)
  case atStart => exact ⟨Below.refl _ _, 0, Nat.zero_le _, rfl⟩
  case round =>
    obtain ⟨hB, i, hi, rfl⟩ := hrel
    by_cases hil : i < n
    · obtain ⟨bc, oc, hbc, _, _, _, _⟩ := LCC.out.at (i := i) (by rw [HC.out.1]; exact hil)
      subst hbc
      obtain ⟨K, hK⟩ : ∃ K, K = cls R n i := ⟨_, rfl⟩
      have hKs := cls_spec (R := R) (n := n) i
      rw [← hK] at hKs
      have hKi : K ≤ i := hKs.1
      have hKK : cls R n K = K := by rw [hK]; exact cls_cls i
      have HKc : Hid (K = cls R n i) := hK
      clear hKs
      have d10 := LCC.out.go zc hB
      obtain ⟨_, _, ed1, _, _, d1, _⟩ := d10.at (i := i) (by rw [HC.out.1]; omega)
      cases ed1
      rw [HC.out.2 i (by omega), ← hK] at d1
      clear d10
      have d20 := LCC.out.go zc hB
      obtain ⟨_, _, ed2, _, _, d2, _⟩ := d20.at (i := K) (by rw [HC.out.1]; omega)
      cases ed2
      rw [HC.out.2 K (by omega), hKK] at d2
      clear d20
      obtain ⟨P, hP⟩ : ∃ P, P = i * n := ⟨_, rfl⟩
      have hPi : (i : Int) * (n : Int) = (P : Int) := by rw [hP]; simp
      have HP : Hid (P = i * n ∧ P + n ≤ N) := ⟨hP, by rw [hP, HN.out.1, ← Nat.succ_mul]; exact Nat.mul_le_mul_right n hil⟩
      have hPm : P + n ≤ N := HP.out.2
      clear hP
      clear hK hKK
      have t1 : decide ((K : Int) < 0) = false := decide_eq_false (by omega)
      have t2 : decide ((i : Int) < (K : Int)) = false := decide_eq_false (by omega)
      have t3 : decide (i < K) = false := decide_eq_false (by omega)
      have hKn : (K : Int) < (n : Int) := by omega
      have iin : (i : Int) < (n : Int) := by omega
      go_wp2_with fail
      go_quiet (fail)
      go_wp2_with fail
      clear d1 d2 t1 t2 t3
      go_loopw [10] (fun q wr => Below wo33.heap.size wo33 wr ∧ ∃ j : Nat, j ≤ n ∧ q = .int .i64 (j : Nat)) (fun q _ => n - (intOf q).toNat)
      case atStart => exact ⟨bel_drewN hB _, 0, Nat.zero_le _, rfl⟩
      case round =>
        clear hB
        obtain ⟨hB, j, hj, rfl⟩ := hrel
        by_cases hjl : j < n
        · obtain ⟨J, hJ⟩ : ∃ J, J = cls R n j := ⟨_, rfl⟩
          have HJ : Hid (J = cls R n j) := hJ
          have d10 := LCC.out.go zc hB
          obtain ⟨_, _, ed1, _, _, d1, _⟩ := d10.at (i := i) (by rw [HC.out.1]; omega)
          cases ed1
          rw [HC.out.2 i (by omega), ← HKc.out] at d1
          clear d10
          have d20 := LCC.out.go zc hB
          obtain ⟨_, _, ed2, _, _, d2, _⟩ := d20.at (i := j) (by rw [HC.out.1]; omega)
          cases ed2
          rw [HC.out.2 j (by omega), ← hJ] at d2
          clear d20
          clear hJ
          obtain ⟨Q, hQ⟩ : ∃ P, P = j * n := ⟨_, rfl⟩
          have hQi : (j : Int) * (n : Int) = (Q : Int) := by rw [hQ]; simp
          have HQ : Hid (Q = j * n ∧ Q + n ≤ N) := ⟨hQ, by rw [hQ, HN.out.1, ← Nat.succ_mul]; exact Nat.mul_le_mul_right n hjl⟩
          have hQm : Q + n ≤ N := HQ.out.2
          clear hQ
          have HE : Hid (K = J ↔ Eqv R n i j) := by show _ ↔ _; rw [HKc.out, HJ.out]; exact cls_same
          have ijn : (j : Int) < (n : Int) := by omega
          have bx := (B36.out.go hB).c2
          have hPj : P + j < N := by omega
          have hQi2 : Q + i < N := by omega
          have x0 := LYD.out.go zl hB
          obtain ⟨_, _, rfl, _, _, x1, _⟩ := x0.at (i := P + j) (by rw [HD.out.1]; exact hPj)
          obtain ⟨_, _, ex2, _, _, x2, _⟩ := x0.at (i := Q + i) (by rw [HD.out.1]; exact hQi2)
          cases ex2
          clear x0
          obtain ⟨x, hx⟩ : ∃ x, x = nth D (P + j) := ⟨_, rfl⟩
          obtain ⟨y, hy⟩ : ∃ x, x = nth D (Q + i) := ⟨_, rfl⟩
          rw [← hx] at x1
          rw [← hy] at x2
          have HX : Hid ((x = 1 ↔ clB R n i j = true) ∧ (y = 1 ↔ clB R n j i = true)) := ⟨by rw [hx, HP.out.1, HD.out.2 i hil j hjl]; exact bI_one, by rw [hy, HQ.out.1, HD.out.2 j hjl i hil]; exact bI_one⟩
          clear hx hy
          have HYes : Eqv R n i j → Hid (((K : Int) == (J : Int)) = true ∧ (K == J) = true) := fun e => by
            have h := HE.out.2 e
            rw [h]
            exact ⟨by simp, by simp⟩
          have HNo : ¬ Eqv R n i j → Hid (((K : Int) == (J : Int)) = false ∧ (K == J) = false) := fun e => by
            have h : ¬ K = J := fun h => e (HE.out.1 h)
            exact ⟨by simp; omega, by simpa using h⟩
          by_cases e : i = j
          · have t0 : ((i : Int) == (j : Int)) = true := by rw [e]; simp
            have t0' : (i == j) = true := by simpa using e
            have HU := HYes (.inl e)
            clear e
            obtain ⟨u1, u2⟩ := HU.out
            clear HYes HNo HE HX HU
            go_wp2_with fail
            go_quiet (fail)
            go_wp2_with fail
            exact ⟨⟨bel_drewN hB _, j + 1, by omega, by go_num⟩, by simp [intOf]; omega⟩
          · have t0 : ((i : Int) == (j : Int)) = false := by simp; omega
            have t0' : (i == j) = false := by simpa using e
            by_cases hx1 : x = 1
            · have t1 : (x == 1) = true := by simpa using hx1
              by_cases hy1 : y = 1
              · have t2 : (y == 1) = true := by simpa using hy1
                have HU := HYes (.inr ⟨HX.out.1.1 hx1, HX.out.2.1 hy1⟩)
                clear e hx1 hy1
                obtain ⟨u1, u2⟩ := HU.out
                clear HYes HNo HE HX HU
                go_wp2_with fail
                go_quiet (fail)
                go_wp2_with fail
                exact ⟨⟨bel_drewN hB _, j + 1, by omega, by go_num⟩, by simp [intOf]; omega⟩
              · have t2 : (y == 1) = false := by simpa using hy1
                have HU := HNo (fun h => h.elim e fun h => hy1 (HX.out.2.2 h.2))
                clear e hx1 hy1
                obtain ⟨u1, u2⟩ := HU.out
                clear HYes HNo HE HX HU
                go_wp2_with fail
                go_quiet (fail)
                go_wp2_with fail
                exact ⟨⟨bel_drewN hB _, j + 1, by omega, by go_num⟩, by simp [intOf]; omega⟩
            · have t1 : (x == 1) = false := by simpa using hx1
              have HU := HNo (fun h => h.elim e fun h => hx1 (HX.out.1.2 h.1))
              clear e hx1
              obtain ⟨u1, u2⟩ := HU.out
              clear HYes HNo HE HX HU
              go_wp2_with fail
              go_quiet (fail)
              go_wp2_with fail
              exact ⟨⟨bel_drewN hB _, j + 1, by omega, by go_num⟩, by simp [intOf]; omega⟩
        · obtain rfl : j = n := by omega
          go_wp2_with fail
          exact ⟨⟨hB, i + 1, by omega, by go_num⟩, by simp [intOf]; omega⟩
    · obtain rfl : i = n := by omega
      go_wp2_with fail
      go_ret
      exact ⟨rfl, hb40.out.trans (hB.mono hb40.out.size)⟩
theorem ralik_walk (c1 : Bool) (sa1 : Option Addr) (sc1 : Nat) (sz1 : List Int) (da1 : Option Addr) (dc1 : Nat) (dz1 : List Int) (w : World) (w8 : IsArrD w sa1 sz1 sc1 da1 dz1 dc1) :
    Calls Try.prog 5 #[.agg #[.bool c1, .slice sa1 sz1.length sc1, .slice da1 dz1.length dc1]] w fun e w' => e = .returned (.bool true) ∧ Below w.heap.size w w' := by
  by_cases h1 : rlE c1 sz1 dz1 = 0
  · obtain ⟨n, hn, rfl, hl1, rfl, hk1⟩ := rl_is h1
    obtain ⟨b1, o1, rfl⟩ := opn14 w8.2.2.1
    exact alik_ok n hn b1 o1 sc1 da1 dc1 dz1 hl1 w ⟨w8.2.2.1, w8.2.2.2.1, w8.2.2.2.2.2⟩ hk1
  · exact alik_no c1 sa1 sc1 sz1 da1 dc1 dz1 w w8 h1
end Go.Proofs.Ytgaelbgeoobgiaa
