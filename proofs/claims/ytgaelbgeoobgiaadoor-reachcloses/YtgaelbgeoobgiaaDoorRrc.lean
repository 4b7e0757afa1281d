/-
  The reference's relation closed: a step more each time.
-/
import Derived.BigQuiet
import Derived.Deep.DeepCutAuto
import Derived.Test.YtgaelbgeoobgiaaDoorRgg
namespace Go.Proofs.YtgaelbgeoobgiaaDoor
open Go.RowKit
set_option linter.unusedVariables false

theorem clL_up0 (n : Nat) (R : Rl) : clL n (upB R n 0) = List.replicate (n * n) 0 := by
  refine List.ext_getElem (by simp [clL]) fun p h1 h2 => ?_
  rw [← nth_get _ _ h1, clL_nth _ (by rw [clL_len] at h1; exact h1), List.getElem_replicate]
  rfl
/-- A step, or what there was, or one of so many steps and what there was behind it. -/
def acB (R U : Rl) (i j t : Nat) : Bool := (R i j || U i j) || (List.range t).any fun k => R i k && U k j
theorem acB_zero (R U : Rl) (i j : Nat) : acB R U i j 0 = (R i j || U i j) := by unfold acB; rw [List.range_zero, List.any_nil, Bool.or_false]
theorem acB_succ (R U : Rl) (i j t : Nat) : acB R U i j (t + 1) = (acB R U i j t || (R i t && U t j)) := by unfold acB; rw [List.range_succ, List.any_append, List.any_cons, List.any_nil, Bool.or_false]; simp only [Bool.or_assoc]
theorem up_ac {R : Rl} {n s i j : Nat} (hj : j < n) : upB R n (s + 1) i j = acB R (upB R n s) i j n := by
  rw [Bool.eq_iff_iff, up_succ hj]
  unfold acB
  rw [Bool.or_eq_true, Bool.or_eq_true, any_iff]
  refine or_congr Iff.rfl ⟨fun ⟨m, h1, h2, h3⟩ => ⟨m, h1, by rw [h2, h3]; rfl⟩, fun ⟨m, h1, h2⟩ => ⟨m, h1, (Bool.and_eq_true _ _ ▸ h2)⟩⟩
set_option maxRecDepth 100000 in
set_option maxHeartbeats 2000000 in
theorem closed_ref (n : Nat) (hn : n ≤ 24) (da : Option Addr) (dc : Nat) (dz : List Int) (m : Nat) (hm : dz.length = m) (hl : dz.length = n * n) (w : World) (hd : IsInts w.heap.size w da dz) :
    Calls Tryd.prog 8 #[.int .i64 (n : Nat), .slice da m dc] w fun e w' => ∃ xa, e = .returned (.slice xa m m) ∧ NewC w.heap.size w' xa (clL n (clB (rdR n dz) n)) m ∧ Below w.heap.size w w' := by
  obtain ⟨N, hN⟩ : ∃ N, N = n * n := ⟨_, rfl⟩
  have h576 : N ≤ 576 := by have : n * n ≤ 24 * 24 := Nat.mul_le_mul hn hn; omega
  have hmul : (n : Int) * (n : Int) = (N : Int) := by rw [hN]; simp
  obtain rfl : m = N := by omega
  obtain ⟨R, hR⟩ : ∃ R, R = rdR n dz := ⟨_, rfl⟩
  rw [← hR]
  have HN : Hid (dz.length = m ∧ m = n * n ∧ ∀ a, a < n → ∀ b, b < n → R a b = (nth dz (a * n + b) == 1)) := ⟨hm, hN, fun a ha b hb => by rw [hR]; exact rdR_at ha hb⟩
  have HI : Hid (IsInts w.heap.size w da dz) := hd
  clear hd hm hl hN hR
  have hmk := run_make_row' (P := Tryd.prog) 22 3 (.int .i64 0) 8 Tryd.underlying22 Tryd.infoInt rfl .i64 .i64 m (by omega) (by omega)
  go_enter Tryd.func8, Tryd.ntmps8
  go_wp2_with fail
  obtain ⟨w0, HW⟩ : ∃ w0, Hid (w0 = w.alloc (.cells (madeCells #[.int .i64 0] m) 3)) := ⟨_, rfl⟩
  rw [← HW.out]
  have HQ0 : Hid (w.heap.size ≤ w.heap.size ∧ w.heap.size + 1 ≤ w0.heap.size ∧ MidC w.heap.size (w.heap.size + 1) w0 (some ⟨w.heap.size, 0, none⟩) (clL n (upB R n 0)) m ∧ Below w.heap.size w w0) := by
    rw [HW.out, clL_up0 n R, ← HN.out.2.1]
    exact ⟨Nat.le_refl _, by simp, zer_mid w 3 m, (Below.refl _ w).alloc (Nat.le_refl _) _⟩
  clear HW
  go_loopw [5, 6] (fun v q wr => ∃ (s bo : Nat), s ≤ n ∧ q = .int .i64 (s : Nat) ∧ v = .slice (some ⟨bo, 0, none⟩) m m ∧ w.heap.size ≤ bo ∧ bo + 1 ≤ wr.heap.size ∧ MidC bo (bo + 1) wr (some ⟨bo, 0, none⟩) (clL n (upB R n s)) m ∧ Below w.heap.size w wr) (fun _ q _ => n - (intOf q).toNat)
  case atStart => exact ⟨0, w.heap.size, Nat.zero_le _, rfl, rfl, HQ0.out⟩
  case round =>
    clear HQ0
    obtain ⟨s, bo, hs, rfl, rfl, hQ⟩ := hrel
    have HQ : Hid (w.heap.size ≤ bo ∧ bo + 1 ≤ wr.heap.size ∧ MidC bo (bo + 1) wr (some ⟨bo, 0, none⟩) (clL n (upB R n s)) m ∧ Below w.heap.size w wr) := hQ
    clear hQ
    by_cases hlt : s < n
    · have HS : Hid (s < n) := hlt
      obtain ⟨O, hO⟩ : ∃ O, O = clL n (upB R n s) := ⟨_, rfl⟩
      obtain ⟨D, hD⟩ : ∃ D, D = clL n (upB R n (s + 1)) := ⟨_, rfl⟩
      obtain ⟨U, hU⟩ : ∃ U, U = upB R n s := ⟨_, rfl⟩
      have HO : Hid (O.length = m ∧ D.length = m ∧ (∀ a, a < n → ∀ b, b < n → nth O (a * n + b) = bI (U a b)) ∧ ∀ a, a < n → ∀ b, b < n → nth D (a * n + b) = bI (acB R U a b n)) := ⟨by rw [hO, clL_len, HN.out.2.1], by rw [hD, clL_len, HN.out.2.1], fun a ha b hb => by rw [hO, hU]; exact clL_at _ ha hb, fun a ha b hb => by rw [hD, clL_at _ ha hb, hU, up_ac hb]⟩
      obtain ⟨bn, hbn⟩ : ∃ b, b = wr.heap.size := ⟨_, rfl⟩
      have hon : bo + 1 ≤ bn := by rw [hbn]; exact HQ.out.2.1
      have hwo : w.heap.size ≤ bo := HQ.out.1
      have HDD : Hid (D = clL n (upB R n (s + 1))) := hD
      obtain ⟨w1, HW1⟩ : ∃ x, Hid (x = wr.alloc (.cells (madeCells #[.int .i64 0] m) 3)) := ⟨_, rfl⟩
      have HQ1 : Hid (MidC bo (bo + 1) w1 (some ⟨bo, 0, none⟩) O m ∧ MidC bn (bn + 1) w1 (some ⟨bn, 0, none⟩) (fil D (0 * n)) m ∧ Below w.heap.size w w1 ∧ bn + 1 ≤ w1.heap.size) := by
        rw [HW1.out, Nat.zero_mul, fil_zero, HO.out.2.1, hO, hbn]
        exact ⟨HQ.out.2.2.1.al HQ.out.2.1 _, zer_mid wr 3 m, HQ.out.2.2.2.alloc HQ.out.2.2.2.size _, by simp⟩
      clear HQ hO hD hU
      go_wp2_with fail
      rw [← HW1.out, ← hbn]
      clear HW1 hbn
      go_loopw [8] (fun q wr => ∃ i : Nat, i ≤ n ∧ q = .int .i64 (i : Nat) ∧ MidC bo (bo + 1) wr (some ⟨bo, 0, none⟩) O m ∧ MidC bn (bn + 1) wr (some ⟨bn, 0, none⟩) (fil D (i * n)) m ∧ Below w.heap.size w wr ∧ bn + 1 ≤ wr.heap.size) (fun q _ => n - (intOf q).toNat)
      case atStart => exact ⟨0, Nat.zero_le _, rfl, HQ1.out⟩
      case round =>
        clear HQ1
        obtain ⟨i, hi, rfl, hQ⟩ := hrel
        have HQ1 : Hid (MidC bo (bo + 1) wr (some ⟨bo, 0, none⟩) O m ∧ MidC bn (bn + 1) wr (some ⟨bn, 0, none⟩) (fil D (i * n)) m ∧ Below w.heap.size w wr ∧ bn + 1 ≤ wr.heap.size) := hQ
        clear hQ
        by_cases hil : i < n
        · obtain ⟨P, hP⟩ : ∃ P, P = i * n := ⟨_, rfl⟩
          have hPi : (i : Int) * (n : Int) = (P : Int) := by rw [hP]; simp
          have HP : Hid (P = i * n ∧ P + n ≤ m ∧ i < n) := ⟨hP, by rw [hP, HN.out.2.1, ← Nat.succ_mul]; exact Nat.mul_le_mul_right n hil, hil⟩
          have hPm : P + n ≤ m := HP.out.2.1
          rw [← hP] at HQ1
          clear hP
          go_wp2_with fail
          go_loopw [9] (fun q wr => ∃ j : Nat, j ≤ n ∧ q = .int .i64 (j : Nat) ∧ MidC bo (bo + 1) wr (some ⟨bo, 0, none⟩) O m ∧ MidC bn (bn + 1) wr (some ⟨bn, 0, none⟩) (fil D (P + j)) m ∧ Below w.heap.size w wr ∧ bn + 1 ≤ wr.heap.size) (fun q _ => n - (intOf q).toNat)
          case atStart => exact ⟨0, Nat.zero_le _, rfl, HQ1.out⟩
          case round =>
            clear HQ1
            obtain ⟨j, hj, rfl, hQ⟩ := hrel
            have HQ2 : Hid (MidC bo (bo + 1) wr (some ⟨bo, 0, none⟩) O m ∧ MidC bn (bn + 1) wr (some ⟨bn, 0, none⟩) (fil D (P + j)) m ∧ Below w.heap.size w wr ∧ bn + 1 ≤ wr.heap.size) := hQ
            clear hQ
            by_cases hjl : j < n
            · obtain ⟨wj, hwj⟩ : ∃ x, x = wr := ⟨_, rfl⟩
              subst hwj
              have hPj : P + j < m := by omega
              obtain ⟨bd, od, rfl, _, hcd⟩ := (HI.out.below HQ2.out.2.2.1).at (q := P + j) (by rw [HN.out.1]; exact hPj)
              have HC : Hid (∀ q, q < m → wj.cell? ⟨bd, od + q, none⟩ = some (.int .i64 (nth dz q))) := fun q hq => hcd q (by rw [HN.out.1]; exact hq)
              clear hcd
              have HCO : Hid (∀ q, q < m → wj.cell? ⟨bo, q, none⟩ = some (.int .i64 (nth O q))) := fun q hq => by
                obtain ⟨_, _, he, _, _, d, _⟩ := HQ2.out.1.at (i := q) (by rw [HO.out.1]; exact hq)
                cases he
                rwa [Nat.zero_add] at d
              have c1 := HC.out _ hPj
              have c2 := HCO.out _ hPj
              obtain ⟨x, hx⟩ : ∃ x, x = nth dz (P + j) := ⟨_, rfl⟩
              obtain ⟨y, hy⟩ : ∃ y, y = nth O (P + j) := ⟨_, rfl⟩
              rw [← hx] at c1
              rw [← hy] at c2
              have HX : Hid ((x == 1) = R i j ∧ (y == 1) = U i j) := ⟨by rw [hx, HP.out.1, ← HN.out.2.2 i hil j hjl], by rw [hy, HP.out.1, HO.out.2.2.1 i hil j hjl]; cases U i j <;> rfl⟩
              obtain ⟨B0, hB0⟩ : ∃ B0 : Bool, B0 = acB R U i j 0 := ⟨_, rfl⟩
              have HB0 : Hid (B0 = ((x == 1) || (y == 1))) := by show _ = _; rw [hB0, HX.out.1, HX.out.2, acB_zero]
              have HBB : Hid (B0 = acB R U i j 0) := hB0
              clear hx hy hB0
              go_upto_region 12 with fail
              go_cut [10] (fun v wc => v = .bool B0 ∧ wc = wj)
              case first =>
                by_cases hx1 : x = 1
                · have t1 : (x == 1) = true := by simpa using hx1
                  have HT : Hid (B0 = true) := by show _ = _; rw [HB0.out, t1]; rfl
                  clear hx1
                  go_wp2_with fail
                  go_meet
                  exact ⟨by rw [HT.out], rfl⟩
                · have t1 : (x == 1) = false := by simpa using hx1
                  by_cases hy1 : y = 1
                  · have t2 : (y == 1) = true := by simpa using hy1
                    have HT : Hid (B0 = true) := by show _ = _; rw [HB0.out, t1, t2]; rfl
                    clear hx1 hy1
                    go_wp2_with fail
                    go_meet
                    exact ⟨by rw [HT.out], rfl⟩
                  · have t2 : (y == 1) = false := by simpa using hy1
                    have HT : Hid (B0 = false) := by show _ = _; rw [HB0.out, t1, t2]; rfl
                    clear hx1 hy1
                    go_wp2_with fail
                    go_meet
                    exact ⟨by rw [HT.out], rfl⟩
              case rest =>
                obtain ⟨rfl, hwc⟩ := hcut
                obtain rfl := hwc.symm
                clear hwc c1 c2 HX HB0
                go_wp2_with fail
                go_loopw [10, 11] (fun v q wr => wr = wj ∧ ∃ k : Nat, k ≤ n ∧ q = .int .i64 (k : Nat) ∧ v = .bool (acB R U i j k)) (fun _ q _ => n - (intOf q).toNat)
                case atStart => exact ⟨by first | trivial | rfl, 0, Nat.zero_le _, rfl, by rw [HBB.out]⟩
                case round =>
                  obtain ⟨hwr, k, hk, rfl, rfl⟩ := hrel
                  obtain rfl := hwr.symm
                  by_cases hkl : k < n
                  · obtain ⟨K, hK⟩ : ∃ K, K = k * n := ⟨_, rfl⟩
                    have hKi : (k : Int) * (n : Int) = (K : Int) := by rw [hK]; simp
                    have hKj : K + j < m := by rw [hK, HN.out.2.1]; exact row_lt hkl hjl
                    have hPk : P + k < m := by omega
                    have c1 := HC.out _ hPk
                    have c2 := HCO.out _ hKj
                    obtain ⟨x, hx⟩ : ∃ x, x = nth dz (P + k) := ⟨_, rfl⟩
                    obtain ⟨y, hy⟩ : ∃ y, y = nth O (K + j) := ⟨_, rfl⟩
                    rw [← hx] at c1
                    rw [← hy] at c2
                    have HX : Hid (acB R U i j (k + 1) = (acB R U i j k || ((x == 1) && (y == 1)))) := by show _ = _; rw [acB_succ, hx, hy, HP.out.1, hK, ← HN.out.2.2 i HP.out.2.2 k hkl, HO.out.2.2.1 k hkl j hjl]; cases U k j <;> rfl
                    clear hx hy hK
                    by_cases hx1 : x = 1
                    · have t1 : (x == 1) = true := by simpa using hx1
                      by_cases hy1 : y = 1
                      · have t2 : (y == 1) = true := by simpa using hy1
                        have HT : Hid (acB R U i j (k + 1) = true) := by show _ = _; rw [HX.out, t1, t2, Bool.true_and, Bool.or_true]
                        clear hx1 hy1 HX
                        go_wp2_with fail
                        exact ⟨⟨by first | trivial | rfl, k + 1, by omega, by go_num, by rw [HT.out]⟩, by simp [intOf]; omega⟩
                      · have t2 : (y == 1) = false := by simpa using hy1
                        have HT : Hid (acB R U i j (k + 1) = acB R U i j k) := by show _ = _; rw [HX.out, t1, t2, Bool.and_false, Bool.or_false]
                        clear hx1 hy1 HX
                        go_wp2_with fail
                        exact ⟨⟨by first | trivial | rfl, k + 1, by omega, by go_num, by rw [HT.out]⟩, by simp [intOf]; omega⟩
                    · have t1 : (x == 1) = false := by simpa using hx1
                      have HT : Hid (acB R U i j (k + 1) = acB R U i j k) := by show _ = _; rw [HX.out, t1, Bool.false_and, Bool.or_false]
                      clear hx1 HX
                      go_wp2_with fail
                      exact ⟨⟨by first | trivial | rfl, k + 1, by omega, by go_num, by rw [HT.out]⟩, by simp [intOf]; omega⟩
                  · obtain rfl : k = n := by omega
                    obtain ⟨z, hz⟩ : ∃ z, z = acB R U i j k := ⟨_, rfl⟩
                    have HZ : Hid (nth D (P + j) = bI z) := by show _ = _; rw [HP.out.1, HO.out.2.2.2 i HP.out.2.2 j hjl, hz]
                    have hfl : P + j < (fil D (P + j)).length := by rw [fil_len D (by rw [HO.out.2.1]; omega), HO.out.2.1]; exact hPj
                    have HFL : Hid (P + j < (fil D (P + j)).length ∧ P + j < D.length) := ⟨hfl, by rw [HO.out.2.1]; exact hPj⟩
                    rw [← hz]
                    clear hz
                    cases z
                    · have HQ6 : Hid (MidC bo (bo + 1) wj (some ⟨bo, 0, none⟩) O m ∧ MidC bn (bn + 1) wj (some ⟨bn, 0, none⟩) (fil D (P + (j + 1))) m ∧ Below w.heap.size w wj ∧ bn + 1 ≤ wj.heap.size) := by
                        rw [← Nat.add_assoc, ← fil_skip HFL.out.2 HZ.out]
                        exact HQ2.out
                      clear hfl HQ2 HZ
                      go_wp2_with fail
                      exact ⟨⟨j + 1, by omega, by go_num, HQ6.out⟩, by simp [intOf]; omega⟩
                    · obtain ⟨_, _, he3, _, _, c3, f3⟩ := HQ2.out.2.1.at hfl
                      cases he3
                      rw [Nat.zero_add] at c3 f3
                      have HQ6 : Hid (MidC bo (bo + 1) (wj.setCell ⟨bn, P + j, none⟩ (.int .i64 1)) (some ⟨bo, 0, none⟩) O m ∧ MidC bn (bn + 1) (wj.setCell ⟨bn, P + j, none⟩ (.int .i64 1)) (some ⟨bn, 0, none⟩) (fil D (P + (j + 1))) m ∧ Below w.heap.size w (wj.setCell ⟨bn, P + j, none⟩ (.int .i64 1)) ∧ bn + 1 ≤ (wj.setCell ⟨bn, P + j, none⟩ (.int .i64 1)).heap.size) := by
                        rw [← Nat.add_assoc, ← fil_next HFL.out.2, HZ.out, show bI true = 1 from rfl]
                        exact ⟨HQ2.out.1.s1 (p := ⟨bn, P + j, none⟩) (by show bn < bo ∨ bo + 1 ≤ bn; omega) _, put0 HQ2.out.2.1 HFL.out.1 _, HQ2.out.2.2.1.setCell (p := ⟨bn, P + j, none⟩) (by show w.heap.size ≤ bn; omega) _, by have := HQ2.out.2.2.2; simp [World.setCell]; omega⟩
                      clear hfl HQ2 HZ
                      go_wp2_with fail
                      exact ⟨⟨j + 1, by omega, by go_num, HQ6.out⟩, by simp [intOf]; omega⟩
            · obtain rfl : j = n := by omega
              go_wp2_with fail
              exact ⟨⟨i + 1, by omega, by go_num, by rw [Nat.succ_mul, ← HP.out.1]; exact HQ2.out⟩, by simp [intOf]; omega⟩
        · obtain rfl : i = n := by omega
          go_wp2_with fail
          exact ⟨⟨s + 1, bn, by have := HS.out; omega, by go_num, rfl, by omega, HQ1.out.2.2.2, by rw [← HDD.out]; have := HQ1.out.2.1; rwa [← HN.out.2.1, ← HO.out.2.1, fil_all, HO.out.2.1] at this, HQ1.out.2.2.1⟩, by simp [intOf]; have := HS.out; omega⟩
    · obtain rfl : s = n := by omega
      have HT : Hid (MidC bo (bo + 1) wr (some ⟨bo, 0, none⟩) (clL s (clB R s)) m) := HQ.out.2.2.1
      go_wp2_with fail
      go_ret
      exact ⟨some ⟨bo, 0, none⟩, rfl, HT.out.newc (lo' := w.heap.size) HQ.out.2.1 HQ.out.1, HQ.out.2.2.2⟩
end Go.Proofs.YtgaelbgeoobgiaaDoor
