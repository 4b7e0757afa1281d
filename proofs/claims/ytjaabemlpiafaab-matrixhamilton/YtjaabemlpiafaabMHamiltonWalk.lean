/-
  The walk of the statement MatrixHamilton, given what the program tells.
-/
import Derived.Test.YtjaabemlpiafaabMtx
import Derived.Test.YtjaabemlpiafaabMtq
import Derived.Test.YtjaabemlpiafaabMidc
namespace Go.Proofs.Ytjaabemlpiafaab
open Go.RowKit
set_option linter.unusedVariables false

theorem shp14 {w v : World} {b o n sc : Nat} (h : IsC w.heap.size w (some ⟨b, o, none⟩) [(n : Int), (n : Int)] sc) (hB : Below w.heap.size w v) : b < w.heap.size ∧ v.cell? ⟨b, o, none⟩ = some (.int .i64 (n : Int)) := by
  obtain ⟨b', o', e, hb, hc⟩ := (h.1.below hB).at (q := 0) (by simp)
  cases e
  have h0 := hc 0 (by simp)
  rw [Nat.add_zero] at h0
  exact ⟨hb, h0⟩
theorem opn14 {w : World} {sa : Option Addr} {n sc : Nat} (h : IsC w.heap.size w sa [(n : Int), (n : Int)] sc) : ∃ b o, sa = some ⟨b, o, none⟩ := by
  obtain ⟨b, o, e, _, _⟩ := h.1.at (q := 0) (by simp)
  exact ⟨b, o, e⟩
set_option maxRecDepth 100000 in
set_option maxHeartbeats 2000000 in
theorem hami_a (c1 : Bool) (sa1 : Option Addr) (sc1 : Nat) (sz1 : List Int) (da1 : Option Addr) (dc1 : Nat) (dz1 : List Int) (w : World) (w8 : IsArrD w sa1 sz1 sc1 da1 dz1 dc1) (G1 : Hid (¬ SqP c1 sz1 dz1)) :
    Calls Try.prog 3 #[.agg #[.bool c1, .slice sa1 sz1.length sc1, .slice da1 dz1.length dc1]] w fun e w' => e = .returned (.bool true) ∧ Below w.heap.size w w' := by
  have HI1 : Hid (IsC w.heap.size w sa1 sz1 sc1 ∧ IsC w.heap.size w da1 dz1 dc1) := ⟨w8.2.2.1, w8.2.2.2.1⟩
  have n1 := Abx.new w (.bool c1) (.slice sa1 sz1.length sc1) (.slice da1 dz1.length dc1)
  go_enter Try.func3, Try.ntmps3
  go_wp2_with fail
  obtain ⟨wo2, hwo2⟩ : ∃ wo2, wo2 = (w.alloc (.cells #[.bool c1, .slice sa1 sz1.length sc1, .slice da1 dz1.length dc1] 24)) := ⟨_, rfl⟩
  rw [← hwo2]
  have z3 : w.heap.size + 1 ≤ wo2.heap.size := by rw [hwo2]; simp only [World.size_alloc]; omega
  have B4 : Hid (Abx wo2 (w.heap.size) (.bool c1) (.slice sa1 sz1.length sc1) (.slice da1 dz1.length dc1)) := by rw [hwo2]; exact n1
  have hb5 : Hid (Below w.heap.size w wo2) := by rw [hwo2]; exact ((Below.refl w.heap.size w).alloc (by omega) (.cells #[.bool c1, .slice sa1 sz1.length sc1, .slice da1 dz1.length dc1] 24))
  have zwo2 : w.heap.size ≤ wo2.heap.size := hb5.out.size
  clear hwo2 n1
  refine (fact14_any _).mono ?_
  rintro e v1 ⟨rfl, hB⟩
  have z6 : wo2.heap.size ≤ v1.heap.size := hB.size
  have B7 : Hid (Abx v1 (w.heap.size) (.bool c1) (.slice sa1 sz1.length sc1) (.slice da1 dz1.length dc1)) := B4.out.go hB
  have hb8 : Hid (Below w.heap.size w v1) := hb5.out.trans (hB.mono hb5.out.size)
  clear hB hb5 B4
  have l9 := (B7.out).c0
  have l10 := (B7.out).c1
  have l11 := (B7.out).c2
  go_wp2_with fail
  clear l9 l10 l11
  refine (square_no c1 sa1 sc1 sz1 da1 dc1 dz1 _ ((HI1.out.1.below hb8.out).mono hb8.out.size).1 G1.out).mono ?_
  rintro e v2 ⟨rfl, hB⟩
  have z12 : v1.heap.size ≤ v2.heap.size := hB.size
  have B13 : Hid (Abx v2 (w.heap.size) (.bool c1) (.slice sa1 sz1.length sc1) (.slice da1 dz1.length dc1)) := B7.out.go hB
  have hb14 : Hid (Below w.heap.size w v2) := hb8.out.trans (hB.mono hb8.out.size)
  clear hB hb8 B7
  go_wp2_with fail
  go_ret
  exact ⟨rfl, hb14.out⟩
set_option maxRecDepth 100000 in
set_option maxHeartbeats 2000000 in
theorem hami_ok (n : Nat) (hn : n ≤ 6) (b1 o1 sc1 : Nat) (da1 : Option Addr) (dc1 : Nat) (dz1 : List Int) (HL1 : Hid (dz1.length = n * n)) (w : World) (HI1 : Hid (IsC w.heap.size w (some ⟨b1, o1, none⟩) [(n : Int), (n : Int)] sc1 ∧ IsC w.heap.size w da1 dz1 dc1 ∧ ∀ j, In64 (nth dz1 j))) :
    Calls Try.prog 3 #[.agg #[.bool false, .slice (some ⟨b1, o1, none⟩) 2 sc1, .slice da1 dz1.length dc1]] w fun e w' => e = .returned (.bool true) ∧ Below w.heap.size w w' := by
  obtain ⟨N, hN⟩ : ∃ N, N = n * n := ⟨_, rfl⟩
  have N36 : N ≤ 36 := by have : n * n ≤ 6 * 6 := Nat.mul_le_mul hn hn; omega
  have hmul : (n : Int) * (n : Int) = (N : Int) := by rw [hN]; simp
  have HN : Hid (N = n * n) := hN
  clear hN
  have HC1 : Hid (nth (chR n (rdg n dz1)) n = 1) := by show _ = _; rw [chR_nth _ (by omega), Nat.sub_self, chc_zero]; exact w_small (by decide) (by decide)
  have hml : (n : Int) < (n : Int) + 1 := by omega
  have hn1 : n < n + 1 := by omega
  have HSh : Hid (∀ v, Below w.heap.size w v → v.cell? ⟨b1, o1, none⟩ = some (.int .i64 (n : Int))) := fun v h => (shp14 HI1.out.1 h).2
  have hmk := run_make_row' (P := Try.prog) 22 3 (.int .i64 0) 8 Try.underlying22 Try.infoInt rfl .i64 .i64 N (by omega) (by omega)
  have n1 := Abx.new w (.bool false) (.slice (some ⟨b1, o1, none⟩) 2 sc1) (.slice da1 dz1.length dc1)
  go_enter Try.func3, Try.ntmps3
  go_wp2_with fail
  obtain ⟨wo2, hwo2⟩ : ∃ wo2, wo2 = (w.alloc (.cells #[.bool false, .slice (some ⟨b1, o1, none⟩) 2 sc1, .slice da1 dz1.length dc1] 24)) := ⟨_, rfl⟩
  rw [← hwo2]
  have z3 : w.heap.size + 1 ≤ wo2.heap.size := by rw [hwo2]; simp only [World.size_alloc]; omega
  have B4 : Hid (Abx wo2 (w.heap.size) (.bool false) (.slice (some ⟨b1, o1, none⟩) 2 sc1) (.slice da1 dz1.length dc1)) := by rw [hwo2]; exact n1
  have hb5 : Hid (Below w.heap.size w wo2) := by rw [hwo2]; exact ((Below.refl w.heap.size w).alloc (by omega) (.cells #[.bool false, .slice (some ⟨b1, o1, none⟩) 2 sc1, .slice da1 dz1.length dc1] 24))
  have zwo2 : w.heap.size ≤ wo2.heap.size := hb5.out.size
  clear hwo2 n1
  refine (fact14_any _).mono ?_
  rintro e v1 ⟨rfl, hB⟩
  have z6 : wo2.heap.size ≤ v1.heap.size := hB.size
  have B7 : Hid (Abx v1 (w.heap.size) (.bool false) (.slice (some ⟨b1, o1, none⟩) 2 sc1) (.slice da1 dz1.length dc1)) := B4.out.go hB
  have hb8 : Hid (Below w.heap.size w v1) := hb5.out.trans (hB.mono hb5.out.size)
  clear hB hb5 B4
  have l9 := (B7.out).c0
  have l10 := (B7.out).c1
  have l11 := (B7.out).c2
  go_wp2_with fail
  clear l9 l10 l11
  refine (square_yes n hn (some ⟨b1, o1, none⟩) sc1 da1 dc1 dz1 dz1.length rfl HL1.out _ ((HI1.out.1.below hb8.out).mono hb8.out.size).1).mono ?_
  rintro e v2 ⟨rfl, hB⟩
  have z12 : v1.heap.size ≤ v2.heap.size := hB.size
  have B13 : Hid (Abx v2 (w.heap.size) (.bool false) (.slice (some ⟨b1, o1, none⟩) 2 sc1) (.slice da1 dz1.length dc1)) := B7.out.go hB
  have hb14 : Hid (Below w.heap.size w v2) := hb8.out.trans (hB.mono hb8.out.size)
  clear hB hb8 B7
  have l15 := (B13.out).c0
  have l16 := (B13.out).c1
  have l17 := (B13.out).c2
  have l18 := HSh.out _ hb14.out
  go_wp2_with fail
  clear l15 l16 l17 l18
  refine (mchr_ok n hn (some ⟨b1, o1, none⟩) sc1 da1 dc1 dz1 dz1.length rfl HL1.out _ ((HI1.out.1.below hb14.out).mono hb14.out.size).1 ((HI1.out.2.1.below hb14.out).mono hb14.out.size).1).mono ?_
  rintro e v3 ⟨ch1, rfl, hC1, hB⟩
  have z19 : v2.heap.size ≤ v3.heap.size := hB.size
  have B20 : Hid (Abx v3 (w.heap.size) (.bool false) (.slice (some ⟨b1, o1, none⟩) 2 sc1) (.slice da1 dz1.length dc1)) := B13.out.go hB
  have hb21 : Hid (Below w.heap.size w v3) := hb14.out.trans (hB.mono hb14.out.size)
  have L22 : Hid (MidC (v2.heap.size) (v3.heap.size) v3 (ch1) (chR n (rdg n dz1)) (n + 1)) := hC1.midc
  clear hB hb14 B13 hC1
  obtain ⟨b23, ob23, rfl, _, _, _, _⟩ := L22.out.at (i := 0) (by rw [chR_len]; omega)
  obtain ⟨_, _, e0e, _, _, e0, _⟩ := L22.out.at (i := n) (by rw [chR_len]; omega)
  cases e0e
  rw [HC1.out] at e0
  have n24 := zer_mid v3 3 N
  go_wp2_with fail
  obtain ⟨wo25, hwo25⟩ : ∃ wo25, wo25 = (v3.alloc (.cells (madeCells #[.int .i64 0] N) 3)) := ⟨_, rfl⟩
  rw [← hwo25]
  have z26 : v3.heap.size + 1 ≤ wo25.heap.size := by rw [hwo25]; simp only [World.size_alloc]; omega
  have B27 : Hid (Abx wo25 (w.heap.size) (.bool false) (.slice (some ⟨b1, o1, none⟩) 2 sc1) (.slice da1 dz1.length dc1)) := by rw [hwo25]; exact (B20.out.al (.cells (madeCells #[.int .i64 0] N) 3))
  have L28 : Hid (MidC (v2.heap.size) (v3.heap.size) wo25 (some ⟨b23, ob23, none⟩) (chR n (rdg n dz1)) (n + 1)) := by rw [hwo25]; exact (L22.out.al (by omega) (.cells (madeCells #[.int .i64 0] N) 3))
  have L29 : Hid (MidC (v3.heap.size) (v3.heap.size + 1) wo25 (some ⟨v3.heap.size, 0, none⟩) (zer (N)) (N)) := by rw [hwo25]; exact n24
  have hb30 : Hid (Below w.heap.size w wo25) := by rw [hwo25]; exact (hb21.out.alloc (by omega) (.cells (madeCells #[.int .i64 0] N) 3))
  have zwo25 : w.heap.size ≤ wo25.heap.size := hb30.out.size
  clear hwo25 n24 hb21 B20 L22
  clear e0 hmk
  have HQ0 : Hid (Abx wo25 (w.heap.size) (.bool false) (.slice (some ⟨b1, o1, none⟩) 2 sc1) (.slice da1 dz1.length dc1) ∧ MidC (v2.heap.size) (v3.heap.size) wo25 (some ⟨b23, ob23, none⟩) (chR n (rdg n dz1)) (n + 1) ∧ MidC (v3.heap.size) (v3.heap.size + 1) wo25 (some ⟨v3.heap.size, 0, none⟩) (hmM n (rdg n dz1) 0 0) (N) ∧ Below w.heap.size w wo25 ∧ wo25.heap.size ≤ wo25.heap.size) := ⟨B27.out, L28.out, by rw [hmM_zero, ← HN.out]; exact L29.out, hb30.out, Nat.le_refl _⟩
  have hsep : v3.heap.size ≤ v3.heap.size := by omega
  have hla : w.heap.size ≤ v3.heap.size := by omega
  have hab : w.heap.size < v3.heap.size := by omega
  have hlv : v3.heap.size + 1 ≤ wo25.heap.size := by omega
  have hcv : v3.heap.size ≤ wo25.heap.size := by omega
  clear B27 L28 L29 hb30
  go_loopw [9] (fun q wr => ∃ k : Nat, k ≤ n + 1 ∧ q = .int .i64 k ∧ Abx wr (w.heap.size) (.bool false) (.slice (some ⟨b1, o1, none⟩) 2 sc1) (.slice da1 dz1.length dc1) ∧ MidC (v2.heap.size) (v3.heap.size) wr (some ⟨b23, ob23, none⟩) (chR n (rdg n dz1)) (n + 1) ∧ MidC (v3.heap.size) (v3.heap.size + 1) wr (some ⟨v3.heap.size, 0, none⟩) (hmM n (rdg n dz1) k 0) (N) ∧ Below w.heap.size w wr ∧ wo25.heap.size ≤ wr.heap.size) (fun q _ => n + 1 - (intOf q).toNat)
  case atStart => exact ⟨0, Nat.zero_le _, rfl, HQ0.out⟩
  case round =>
    clear HQ0
    obtain ⟨k, hk, rfl, hQ⟩ := hrel
    have HQ : Hid (Abx wr (w.heap.size) (.bool false) (.slice (some ⟨b1, o1, none⟩) 2 sc1) (.slice da1 dz1.length dc1) ∧ MidC (v2.heap.size) (v3.heap.size) wr (some ⟨b23, ob23, none⟩) (chR n (rdg n dz1)) (n + 1) ∧ MidC (v3.heap.size) (v3.heap.size + 1) wr (some ⟨v3.heap.size, 0, none⟩) (hmM n (rdg n dz1) k 0) (N) ∧ Below w.heap.size w wr ∧ wo25.heap.size ≤ wr.heap.size) := hQ
    clear hQ
    obtain ⟨wk, hwk⟩ : ∃ x, x = wr := ⟨_, rfl⟩
    subst hwk
    have zk : wo25.heap.size ≤ wk.heap.size := HQ.out.2.2.2.2
    have BQ : Hid (Abx wk (w.heap.size) (.bool false) (.slice (some ⟨b1, o1, none⟩) 2 sc1) (.slice da1 dz1.length dc1)) := HQ.out.1
    have LC : Hid (MidC (v2.heap.size) (v3.heap.size) wk (some ⟨b23, ob23, none⟩) (chR n (rdg n dz1)) (n + 1)) := HQ.out.2.1
    have LA : Hid (MidC (v3.heap.size) (v3.heap.size + 1) wk (some ⟨v3.heap.size, 0, none⟩) (hmM n (rdg n dz1) k 0) (N)) := HQ.out.2.2.1
    have hbQ : Hid (Below w.heap.size w wk) := HQ.out.2.2.2.1
    clear HQ
    by_cases hlt : k ≤ n
    · have HLp : Hid ((cls n (pwg n (rdg n dz1) k)).length = N) := by show _ = _; rw [cls_len, HN.out]
      have l31 := (BQ.out).c0
      have l32 := (BQ.out).c1
      have l33 := (BQ.out).c2
      go_wp2_with fail
      clear l31 l32 l33
      refine (mpow_ok n hn (some ⟨b1, o1, none⟩) sc1 da1 dc1 dz1 dz1.length rfl HL1.out _ ((HI1.out.1.below hbQ.out).mono hbQ.out.size).1 ((HI1.out.2.1.below hbQ.out).mono hbQ.out.size).1 HI1.out.2.2 k (by omega)).mono ?_
      rintro e v4 ⟨xa3, xc3, ya3, yc3, rfl, hX3, hY3, hB⟩
      have z34 : wk.heap.size ≤ v4.heap.size := hB.size
      have B35 : Hid (Abx v4 (w.heap.size) (.bool false) (.slice (some ⟨b1, o1, none⟩) 2 sc1) (.slice da1 dz1.length dc1)) := BQ.out.go hB
      have L36 : Hid (MidC (v2.heap.size) (v3.heap.size) v4 (some ⟨b23, ob23, none⟩) (chR n (rdg n dz1)) (n + 1)) := LC.out.go (by omega) hB
      have L37 : Hid (MidC (v3.heap.size) (v3.heap.size + 1) v4 (some ⟨v3.heap.size, 0, none⟩) (hmM n (rdg n dz1) k 0) (N)) := LA.out.go (by omega) hB
      have hb38 : Hid (Below w.heap.size w v4) := hbQ.out.trans (hB.mono hbQ.out.size)
      have L39 : Hid (MidC (wk.heap.size) (v4.heap.size) v4 (xa3) ([(n : Int), (n : Int)]) (xc3)) := hX3.midc
      have L40 : Hid (MidC (wk.heap.size) (v4.heap.size) v4 (ya3) (cls n (pwg n (rdg n dz1) k)) (yc3)) := hY3.midc
      clear hB hbQ BQ LC LA hX3 hY3
      rw [HLp.out]
      have n41 := Abx.new v4 (.bool false) (.slice (xa3) 2 (xc3)) (.slice (ya3) (N) (yc3))
      have l42 := (n41).c0
      have l43 := (n41).c1
      have l44 := (n41).c2
      go_wp2_with fail
      obtain ⟨wo45, hwo45⟩ : ∃ wo45, wo45 = (v4.alloc (.cells #[.bool false, .slice (xa3) 2 (xc3), .slice (ya3) (N) (yc3)] 24)) := ⟨_, rfl⟩
      rw [← hwo45]
      have z46 : v4.heap.size + 1 ≤ wo45.heap.size := by rw [hwo45]; simp only [World.size_alloc]; omega
      have B47 : Hid (Abx wo45 (w.heap.size) (.bool false) (.slice (some ⟨b1, o1, none⟩) 2 sc1) (.slice da1 dz1.length dc1)) := by rw [hwo45]; exact (B35.out.al (.cells #[.bool false, .slice (xa3) 2 (xc3), .slice (ya3) (N) (yc3)] 24))
      have B48 : Hid (Abx wo45 (v4.heap.size) (.bool false) (.slice (xa3) 2 (xc3)) (.slice (ya3) (N) (yc3))) := by rw [hwo45]; exact n41
      have L49 : Hid (MidC (v2.heap.size) (v3.heap.size) wo45 (some ⟨b23, ob23, none⟩) (chR n (rdg n dz1)) (n + 1)) := by rw [hwo45]; exact (L36.out.al (by omega) (.cells #[.bool false, .slice (xa3) 2 (xc3), .slice (ya3) (N) (yc3)] 24))
      have L50 : Hid (MidC (v3.heap.size) (v3.heap.size + 1) wo45 (some ⟨v3.heap.size, 0, none⟩) (hmM n (rdg n dz1) k 0) (N)) := by rw [hwo45]; exact (L37.out.al (by omega) (.cells #[.bool false, .slice (xa3) 2 (xc3), .slice (ya3) (N) (yc3)] 24))
      have L51 : Hid (MidC (wk.heap.size) (v4.heap.size) wo45 (xa3) ([(n : Int), (n : Int)]) (xc3)) := by rw [hwo45]; exact (L39.out.al (by omega) (.cells #[.bool false, .slice (xa3) 2 (xc3), .slice (ya3) (N) (yc3)] 24))
      have L52 : Hid (MidC (wk.heap.size) (v4.heap.size) wo45 (ya3) (cls n (pwg n (rdg n dz1) k)) (yc3)) := by rw [hwo45]; exact (L40.out.al (by omega) (.cells #[.bool false, .slice (xa3) 2 (xc3), .slice (ya3) (N) (yc3)] 24))
      have hb53 : Hid (Below w.heap.size w wo45) := by rw [hwo45]; exact (hb38.out.alloc (by omega) (.cells #[.bool false, .slice (xa3) 2 (xc3), .slice (ya3) (N) (yc3)] 24))
      have zwo45 : w.heap.size ≤ wo45.heap.size := hb53.out.size
      clear hwo45 n41 l42 l43 l44 hb38 B35 L36 L37 L39 L40
      have HI0 : Hid (Abx wo45 (w.heap.size) (.bool false) (.slice (some ⟨b1, o1, none⟩) 2 sc1) (.slice da1 dz1.length dc1) ∧ Abx wo45 (v4.heap.size) (.bool false) (.slice (xa3) 2 (xc3)) (.slice (ya3) (N) (yc3)) ∧ MidC (v2.heap.size) (v3.heap.size) wo45 (some ⟨b23, ob23, none⟩) (chR n (rdg n dz1)) (n + 1) ∧ MidC (wk.heap.size) (v4.heap.size) wo45 (ya3) (cls n (pwg n (rdg n dz1) k)) (yc3) ∧ MidC (v3.heap.size) (v3.heap.size + 1) wo45 (some ⟨v3.heap.size, 0, none⟩) (hmM n (rdg n dz1) k 0) (N) ∧ Below w.heap.size w wo45 ∧ wo45.heap.size ≤ wo45.heap.size) := ⟨B47.out, B48.out, L49.out, L52.out, L50.out, hb53.out, Nat.le_refl _⟩
      have hpa : v3.heap.size < v4.heap.size := by omega
      have hya : v3.heap.size + 1 ≤ wk.heap.size := by omega
      have hyu : v4.heap.size ≤ wo45.heap.size := by omega
      have hlu : v3.heap.size + 1 ≤ wo45.heap.size := by omega
      have hcu : v3.heap.size ≤ wo45.heap.size := by omega
      clear B47 B48 L49 L52 L50 L51 hb53
      go_loopw [12] (fun q wr => ∃ t : Nat, t ≤ N ∧ q = .int .i64 t ∧ Abx wr (w.heap.size) (.bool false) (.slice (some ⟨b1, o1, none⟩) 2 sc1) (.slice da1 dz1.length dc1) ∧ Abx wr (v4.heap.size) (.bool false) (.slice (xa3) 2 (xc3)) (.slice (ya3) (N) (yc3)) ∧ MidC (v2.heap.size) (v3.heap.size) wr (some ⟨b23, ob23, none⟩) (chR n (rdg n dz1)) (n + 1) ∧ MidC (wk.heap.size) (v4.heap.size) wr (ya3) (cls n (pwg n (rdg n dz1) k)) (yc3) ∧ MidC (v3.heap.size) (v3.heap.size + 1) wr (some ⟨v3.heap.size, 0, none⟩) (hmM n (rdg n dz1) k t) (N) ∧ Below w.heap.size w wr ∧ wo45.heap.size ≤ wr.heap.size) (fun q _ => N - (intOf q).toNat)
      case atStart => exact ⟨0, Nat.zero_le _, rfl, HI0.out⟩
      case round =>
        clear HI0
        obtain ⟨t, ht, rfl, hQ⟩ := hrel
        have HI : Hid (Abx wr (w.heap.size) (.bool false) (.slice (some ⟨b1, o1, none⟩) 2 sc1) (.slice da1 dz1.length dc1) ∧ Abx wr (v4.heap.size) (.bool false) (.slice (xa3) 2 (xc3)) (.slice (ya3) (N) (yc3)) ∧ MidC (v2.heap.size) (v3.heap.size) wr (some ⟨b23, ob23, none⟩) (chR n (rdg n dz1)) (n + 1) ∧ MidC (wk.heap.size) (v4.heap.size) wr (ya3) (cls n (pwg n (rdg n dz1) k)) (yc3) ∧ MidC (v3.heap.size) (v3.heap.size + 1) wr (some ⟨v3.heap.size, 0, none⟩) (hmM n (rdg n dz1) k t) (N) ∧ Below w.heap.size w wr ∧ wo45.heap.size ≤ wr.heap.size) := hQ
        clear hQ
        by_cases htl : t < N
        · obtain ⟨bd, od, rfl, _, _, d1, _⟩ := HI.out.2.2.2.1.at (i := t) (by rw [HLp.out]; exact htl)
          obtain ⟨_, _, d0e, _, _, d0, _⟩ := HI.out.2.2.1.at (i := k) (by rw [chR_len]; omega)
          cases d0e
          obtain ⟨m1, m2, m3, m4⟩ := mid14 (p := t) HI.out.2.2.2.2.1 (by rw [hmM_len, ← HN.out]; exact htl)
          rw [hmM_nth (by rw [← HN.out]; exact htl), if_neg (Nat.lt_irrefl t), Nat.zero_add] at m3
          rw [Nat.zero_add] at m4
          have e2 := HI.out.2.1.c2
          obtain ⟨gv, hgv⟩ : ∃ x, x = hmG n (rdg n dz1) k t := ⟨_, rfl⟩
          obtain ⟨cv, hcvv⟩ : ∃ x, x = nth (chR n (rdg n dz1)) k := ⟨_, rfl⟩
          obtain ⟨yv, hyv⟩ : ∃ x, x = nth (cls n (pwg n (rdg n dz1) k)) t := ⟨_, rfl⟩
          obtain ⟨x1, hx1⟩ : ∃ x, IntKind.i64.wrap (cv * yv) = x := ⟨_, rfl⟩
          obtain ⟨xv, hxv⟩ : ∃ x, IntKind.i64.wrap (gv + x1) = x := ⟨_, rfl⟩
          have HX : Hid (xv = hmG n (rdg n dz1) (k + 1) t) := by show _ = _; rw [hmG_next, ← hxv, ← hx1, hgv, hcvv, hyv, IntWalk.i64_left, IntWalk.i64_left]
          rw [← hgv] at m3
          rw [← hcvv] at d0
          rw [← hyv] at d1
          clear hgv hcvv hyv
          have bti : (t : Int) < (N : Int) := by omega
          have bki : (k : Int) < (n : Int) + 1 := by omega
          have bk1 : k < n + 1 := by omega
          go_wp2_with fail
          refine anyT_begin 15 (fun w' => w'.cell? ⟨v3.heap.size, t, none⟩ = some (.int .i64 gv) ∧ w'.cell? ⟨b23, ob23 + k, none⟩ = some (.int .i64 cv) ∧ w'.cell? ⟨v4.heap.size, 2, none⟩ = some (.slice (some ⟨bd, od, none⟩) (N) (yc3)) ∧ w'.cell? ⟨bd, od + t, none⟩ = some (.int .i64 yv)) 17 #[false, false, false, false, false, false, false, false, false, false, false, false, false, false, false, false, false] (by kernel_rfl) rfl rfl ?_
          refine anyT_put 0 79 ?rv0 #[true, false, false, false, false, false, false, false, false, false, false, false, false, false, false, false, false] rfl rfl rfl (by kernel_rfl) (by kernel_rfl) (by kernel_rfl) (fun _ _ _ h => h) (by decide) ?ry0 (fun _ => ⟨m3, d0, e2, d1⟩) ?rm0
          case ry0 => first | exact Or.inl ⟨by rfl, by intro w'; go_simp; first | done | rfl⟩
          case rm0 =>
          simp only [Act.put, List.setIfInBounds_toArray, List.set_cons_zero, List.set_cons_succ]
          refine anyT_put 1 80 ?rv1 #[true, true, false, false, false, false, false, false, false, false, false, false, false, false, false, false, false] rfl rfl rfl (by kernel_rfl) (by kernel_rfl) (by kernel_rfl) (fun _ _ _ h => h) (by decide) ?ry1 (fun _ => ⟨m3, d0, e2, d1⟩) ?rm1
          case ry1 => first | exact Or.inl ⟨by rfl, by intro w'; go_simp; first | done | rfl⟩
          case rm1 =>
          simp only [Act.put, List.setIfInBounds_toArray, List.set_cons_zero, List.set_cons_succ]
          refine anyT_put 2 81 ?rv2 #[true, true, true, false, false, false, false, false, false, false, false, false, false, false, false, false, false] rfl rfl rfl (by kernel_rfl) (by kernel_rfl) (by kernel_rfl) (fun _ _ _ h => h) (by decide) ?ry2 (fun _ => ⟨m3, d0, e2, d1⟩) ?rm2
          case ry2 => first | exact Or.inl ⟨by rfl, by intro w'; go_simp; first | done | rfl⟩
          case rm2 =>
          simp only [Act.put, List.setIfInBounds_toArray, List.set_cons_zero, List.set_cons_succ]
          refine anyT_take 3 82 ?rv3 #[true, true, true, true, false, false, false, false, false, false, false, false, false, false, false, false, false] rfl rfl rfl (by kernel_rfl) (by kernel_rfl) (by kernel_rfl) (fun _ _ _ h => h) (by kernel_rfl) (by decide) (by kernel_rfl) ?ry3 (⟨m3, d0, e2, d1⟩) ?rm3
          case ry3 => first | exact Or.inl ⟨by rfl, by intro w' hw'; (try dsimp only at hw'); go_simp; first | done | rfl⟩
          case rm3 =>
          simp only [Act.put, List.setIfInBounds_toArray, List.set_cons_zero, List.set_cons_succ]
          refine anyT_put 4 83 ?rv4 #[true, true, true, true, true, false, false, false, false, false, false, false, false, false, false, false, false] rfl rfl rfl (by kernel_rfl) (by kernel_rfl) (by kernel_rfl) (fun _ _ _ h => h) (by decide) ?ry4 (fun _ => ⟨m3, d0, e2, d1⟩) ?rm4
          case ry4 => first | exact Or.inl ⟨by rfl, by intro w'; go_simp; first | done | rfl⟩
          case rm4 =>
          simp only [Act.put, List.setIfInBounds_toArray, List.set_cons_zero, List.set_cons_succ]
          refine anyT_put 5 84 ?rv5 #[true, true, true, true, true, true, false, false, false, false, false, false, false, false, false, false, false] rfl rfl rfl (by kernel_rfl) (by kernel_rfl) (by kernel_rfl) (fun _ _ _ h => h) (by decide) ?ry5 (fun _ => ⟨m3, d0, e2, d1⟩) ?rm5
          case ry5 => first | exact Or.inl ⟨by rfl, by intro w'; go_simp; first | done | rfl⟩
          case rm5 =>
          simp only [Act.put, List.setIfInBounds_toArray, List.set_cons_zero, List.set_cons_succ]
          refine anyT_put 6 85 ?rv6 #[true, true, true, true, true, true, true, false, false, false, false, false, false, false, false, false, false] rfl rfl rfl (by kernel_rfl) (by kernel_rfl) (by kernel_rfl) (fun _ _ _ h => h) (by decide) ?ry6 (fun _ => ⟨m3, d0, e2, d1⟩) ?rm6
          case ry6 => first | exact Or.inl ⟨by rfl, by intro w'; go_simp; first | done | rfl⟩
          case rm6 =>
          simp only [Act.put, List.setIfInBounds_toArray, List.set_cons_zero, List.set_cons_succ]
          refine anyT_take 7 86 ?rv7 #[true, true, true, true, true, true, true, true, false, false, false, false, false, false, false, false, false] rfl rfl rfl (by kernel_rfl) (by kernel_rfl) (by kernel_rfl) (fun _ _ _ h => h) (by kernel_rfl) (by decide) (by kernel_rfl) ?ry7 (⟨m3, d0, e2, d1⟩) ?rm7
          case ry7 => first | exact Or.inl ⟨by rfl, by intro w' hw'; (try dsimp only at hw'); go_simp; first | done | rfl⟩
          case rm7 =>
          simp only [Act.put, List.setIfInBounds_toArray, List.set_cons_zero, List.set_cons_succ]
          refine anyT_put 8 87 ?rv8 #[true, true, true, true, true, true, true, true, true, false, false, false, false, false, false, false, false] rfl rfl rfl (by kernel_rfl) (by kernel_rfl) (by kernel_rfl) (fun _ _ _ h => h) (by decide) ?ry8 (fun _ => ⟨m3, d0, e2, d1⟩) ?rm8
          case ry8 => first | exact Or.inl ⟨by rfl, by intro w'; go_simp; first | done | rfl⟩
          case rm8 =>
          simp only [Act.put, List.setIfInBounds_toArray, List.set_cons_zero, List.set_cons_succ]
          refine anyT_take 9 88 ?rv9 #[true, true, true, true, true, true, true, true, true, true, false, false, false, false, false, false, false] rfl rfl rfl (by kernel_rfl) (by kernel_rfl) (by kernel_rfl) (fun _ _ _ h => h) (by kernel_rfl) (by decide) (by kernel_rfl) ?ry9 (⟨m3, d0, e2, d1⟩) ?rm9
          case ry9 => first | exact Or.inl ⟨by rfl, by intro w' hw'; (try dsimp only at hw'); go_simp; first | done | rfl⟩
          case rm9 =>
          simp only [Act.put, List.setIfInBounds_toArray, List.set_cons_zero, List.set_cons_succ]
          refine anyT_put 10 89 ?rv10 #[true, true, true, true, true, true, true, true, true, true, true, false, false, false, false, false, false] rfl rfl rfl (by kernel_rfl) (by kernel_rfl) (by kernel_rfl) (fun _ _ _ h => h) (by decide) ?ry10 (fun _ => ⟨m3, d0, e2, d1⟩) ?rm10
          case ry10 => first | exact Or.inl ⟨by rfl, by intro w'; go_simp; first | done | rfl⟩
          case rm10 =>
          simp only [Act.put, List.setIfInBounds_toArray, List.set_cons_zero, List.set_cons_succ]
          refine anyT_put 11 90 ?rv11 #[true, true, true, true, true, true, true, true, true, true, true, true, false, false, false, false, false] rfl rfl rfl (by kernel_rfl) (by kernel_rfl) (by kernel_rfl) (fun _ _ _ h => h) (by decide) ?ry11 (fun _ => ⟨m3, d0, e2, d1⟩) ?rm11
          case ry11 => first | exact Or.inl ⟨by rfl, by intro w'; go_simp; first | done | rfl⟩
          case rm11 =>
          simp only [Act.put, List.setIfInBounds_toArray, List.set_cons_zero, List.set_cons_succ]
          refine anyT_take 12 91 ?rv12 #[true, true, true, true, true, true, true, true, true, true, true, true, true, false, false, false, false] rfl rfl rfl (by kernel_rfl) (by kernel_rfl) (by kernel_rfl) (fun _ _ _ h => h) (by kernel_rfl) (by decide) (by kernel_rfl) ?ry12 (⟨m3, d0, e2, d1⟩) ?rm12
          case ry12 => first | exact Or.inl ⟨by rfl, by intro w' hw'; (try dsimp only at hw'); go_simp; first | done | rfl⟩
          case rm12 =>
          simp only [Act.put, List.setIfInBounds_toArray, List.set_cons_zero, List.set_cons_succ]
          refine anyT_put 13 92 ?rv13 #[true, true, true, true, true, true, true, true, true, true, true, true, true, true, false, false, false] rfl rfl rfl (by kernel_rfl) (by kernel_rfl) (by kernel_rfl) (fun _ _ _ h => h) (by decide) ?ry13 (fun _ => ⟨m3, d0, e2, d1⟩) ?rm13
          case ry13 => first | exact Or.inl ⟨by rfl, by intro w'; go_simp; first | done | rfl⟩
          case rm13 =>
          simp only [Act.put, List.setIfInBounds_toArray, List.set_cons_zero, List.set_cons_succ]
          refine anyT_put 14 93 ?rv14 #[true, true, true, true, true, true, true, true, true, true, true, true, true, true, true, false, false] rfl rfl rfl (by kernel_rfl) (by kernel_rfl) (by kernel_rfl) (fun _ _ _ h => h) (by decide) ?ry14 (fun _ => ⟨m3, d0, e2, d1⟩) ?rm14
          case ry14 => first | exact Or.inl ⟨by rfl, by intro w'; go_simp; first | done | rfl⟩
          case rm14 =>
          simp only [Act.put, List.setIfInBounds_toArray, List.set_cons_zero, List.set_cons_succ]
          refine anyT_one 15 #[true, true, true, true, true, true, true, true, true, true, true, true, true, true, true, true, false] (by kernel_rfl) rfl rfl (fun K hK => ?_)
          go_simp
          refine hK.out _ _ (fun h => absurd h (by decide)) ?_
          clear hK K
          refine anyT_one 16 #[true, true, true, true, true, true, true, true, true, true, true, true, true, true, true, true, true] (by kernel_rfl) rfl rfl (fun K hK => ?_)
          go_simp
          refine hK.out _ _ (fun h => absurd h (by decide)) ?_
          clear hK K
          refine anyT_done (by kernel_rfl) ?_
          obtain ⟨w1, HW1⟩ : ∃ x, Hid (x = (wr.setCell ⟨v3.heap.size, t, none⟩ (.int .i64 xv)).drew) := ⟨_, rfl⟩
          rw [← HW1.out]
          have HI1' : Hid (Abx w1 (w.heap.size) (.bool false) (.slice (some ⟨b1, o1, none⟩) 2 sc1) (.slice da1 dz1.length dc1) ∧ Abx w1 (v4.heap.size) (.bool false) (.slice (xa3) 2 (xc3)) (.slice (some ⟨bd, od, none⟩) (N) (yc3)) ∧ MidC (v2.heap.size) (v3.heap.size) w1 (some ⟨b23, ob23, none⟩) (chR n (rdg n dz1)) (n + 1) ∧ MidC (wk.heap.size) (v4.heap.size) w1 (some ⟨bd, od, none⟩) (cls n (pwg n (rdg n dz1) k)) (yc3) ∧ MidC (v3.heap.size) (v3.heap.size + 1) w1 (some ⟨v3.heap.size, 0, none⟩) (hmM n (rdg n dz1) k (t + 1)) (N) ∧ Below w.heap.size w w1 ∧ wo45.heap.size ≤ w1.heap.size) := by
            have hsz := HI.out.2.2.2.2.2.2
            show _ ∧ _
            rw [HW1.out, ← hmM_set (by rw [← HN.out]; exact htl), ← HX.out]
            exact ⟨(HI.out.1.ot (a := ⟨v3.heap.size, t, none⟩) (by show w.heap.size ≠ v3.heap.size; omega) _).dr, (HI.out.2.1.ot (a := ⟨v3.heap.size, t, none⟩) (by show v4.heap.size ≠ v3.heap.size; omega) _).dr, MidC.go (HI.out.2.2.1.s1 (p := ⟨v3.heap.size, t, none⟩) (by show v3.heap.size < _ ∨ _ ≤ v3.heap.size; omega) _) (by rw [World.size_setCell]; omega) (Below.refl _ _).drew, MidC.go (HI.out.2.2.2.1.s1 (p := ⟨v3.heap.size, t, none⟩) (by show v3.heap.size < _ ∨ _ ≤ v3.heap.size; omega) _) (by rw [World.size_setCell]; omega) (Below.refl _ _).drew, MidC.go (put0 HI.out.2.2.2.2.1 (by rw [hmM_len, ← HN.out]; exact htl) xv) (by rw [World.size_setCell]; omega) (Below.refl _ _).drew, (HI.out.2.2.2.2.2.1.setCell (p := ⟨v3.heap.size, t, none⟩) (by show w.heap.size ≤ v3.heap.size; omega) _).drew, by show _ ≤ (wr.setCell ⟨v3.heap.size, t, none⟩ _).heap.size; rw [World.size_setCell]; exact hsz⟩
          clear HW1 HI m1 m2 m3 m4 d0 d1 e2
          go_wp2_with fail
          exact ⟨⟨t + 1, by omega, by go_num, HI1'.out⟩, by simp [intOf]; omega⟩
        · obtain rfl : N = t := by omega
          go_wp2_with fail
          exact ⟨⟨k + 1, by omega, by go_num, HI.out.1, HI.out.2.2.1, by rw [← hmM_all, ← HN.out]; exact HI.out.2.2.2.2.1, HI.out.2.2.2.2.2.1, by have := HI.out.2.2.2.2.2.2; omega⟩, by simp [intOf]; omega⟩
    · have HK : Hid (k = n + 1) := by show _ = _; omega
      go_wp2_with fail
      go_loopw [13] (fun i wr => wr = wk ∧ ∃ t : Nat, t ≤ N ∧ i = .int .i64 t) (fun i _ => N - (intOf i).toNat)
      case atStart => exact ⟨rfl, 0, Nat.zero_le _, rfl⟩
      case round =>
        obtain ⟨hwr, t, ht, rfl⟩ := hrel
        obtain rfl := hwr.symm
        by_cases htl : t < N
        · obtain ⟨m1, m2, m3, m4⟩ := mid14 (p := t) LA.out (by rw [hmM_len, ← HN.out]; exact htl)
          rw [hmM_nth (by rw [← HN.out]; exact htl), if_neg (by omega), Nat.zero_add, HK.out, hmG_end (by rw [← HN.out]; exact htl)] at m3
          go_wp2_with fail
          exact ⟨⟨by first | trivial | rfl, t + 1, by omega, by go_num⟩, by simp [intOf]; omega⟩
        · obtain rfl : N = t := by omega
          go_wp2_with fail
          go_ret
          exact ⟨rfl, hbQ.out⟩
theorem mhami_walk (c1 : Bool) (sa1 : Option Addr) (sc1 : Nat) (sz1 : List Int) (da1 : Option Addr) (dc1 : Nat) (dz1 : List Int) (w : World) (w8 : IsArrD w sa1 sz1 sc1 da1 dz1 dc1) :
    Calls Try.prog 3 #[.agg #[.bool c1, .slice sa1 sz1.length sc1, .slice da1 dz1.length dc1]] w fun e w' => e = .returned (.bool true) ∧ Below w.heap.size w w' := by
  by_cases h1 : SqP c1 sz1 dz1
  · obtain ⟨n, hn, rfl, hl1, rfl⟩ := h1
    obtain ⟨b1, o1, rfl⟩ := opn14 w8.2.2.1
    exact hami_ok  n hn b1 o1 sc1 da1 dc1 dz1 hl1 w ⟨w8.2.2.1, w8.2.2.2.1, w8.2.2.2.2.2⟩
  · exact hami_a c1 sa1 sc1 sz1 da1 dc1 dz1 w w8 h1
end Go.Proofs.Ytjaabemlpiafaab
