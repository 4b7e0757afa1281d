/-
  The reference's least numbers of steps: each step is asked for again and again.
-/
import Derived.BigQuiet
import Derived.Deep.DeepCutAuto
import Derived.Test.YtgaelbgeoobgiaaDoorRgj
namespace Go.Proofs.YtgaelbgeoobgiaaDoor
open Go.RowKit
set_option linter.unusedVariables false

set_option maxRecDepth 100000 in
set_option maxHeartbeats 2000000 in
theorem dist_ref (n : Nat) (hn : n ≤ 24) (da : Option Addr) (dc : Nat) (dz : List Int) (m : Nat) (hm : dz.length = m) (hl : dz.length = n * n) (i : Nat) (hi : i < n) (w : World) (hd : IsInts w.heap.size w da dz) :
    Calls Tryd.prog 16 #[.int .i64 (n : Nat), .slice da m dc, .int .i64 (i : Nat)] w fun e w' => ∃ xa, e = .returned (.slice xa n n) ∧ NewC w.heap.size w' xa (frL n (rdR n dz) i) n ∧ Below w.heap.size w w' := by
  obtain ⟨N, hN⟩ : ∃ N, N = n * n := ⟨_, rfl⟩
  have h576 : N ≤ 576 := by have : n * n ≤ 24 * 24 := Nat.mul_le_mul hn hn; omega
  have hmul : (n : Int) * (n : Int) = (N : Int) := by rw [hN]; simp
  obtain rfl : m = N := by omega
  obtain ⟨R, hR⟩ : ∃ R, R = rdR n dz := ⟨_, rfl⟩
  have HR : Hid (R = rdR n dz) := hR
  have HN : Hid (dz.length = m ∧ m = n * n ∧ ∀ a, a < n → ∀ b, b < n → R a b = (nth dz (a * n + b) == 1)) := ⟨hm, hN, fun a ha b hb => by rw [hR]; exact rdR_at ha hb⟩
  have HI : Hid (IsInts w.heap.size w da dz) := hd
  clear hd hm hl hN hR
  have HII : Hid (i < n) := hi
  have iI : (i : Int) < (n : Int) := by omega
  have hmk := run_make_row' (P := Tryd.prog) 22 3 (.int .i64 0) 8 Tryd.underlying22 Tryd.infoInt rfl .i64 .i64 n (by omega) (by omega)
  obtain ⟨w1, HW1⟩ : ∃ x, Hid (x = w.alloc (.cells (madeCells #[.int .i64 0] n) 3)) := ⟨_, rfl⟩
  have HQ0 : Hid (MidC w.heap.size (w.heap.size + 1) w1 (some ⟨w.heap.size, 0, none⟩) (mnL n 0) n ∧ Below w.heap.size w w1 ∧ w.heap.size + 1 ≤ w1.heap.size) := by
    rw [HW1.out, mnL_zero]
    exact ⟨zer_mid w 3 n, (Below.refl _ w).alloc (Nat.le_refl _) _, by simp⟩
  go_enter Tryd.func16, Tryd.ntmps16
  go_wp2_with fail
  rw [← HW1.out]
  clear HW1 hmk
  go_loopw [8] (fun j wr => ∃ t : Nat, t ≤ n ∧ j = .int .i64 t ∧ MidC w.heap.size (w.heap.size + 1) wr (some ⟨w.heap.size, 0, none⟩) (mnL n t) n ∧ Below w.heap.size w wr ∧ w.heap.size + 1 ≤ wr.heap.size) (fun j _ => n - (intOf j).toNat)
  case atStart => exact ⟨0, Nat.zero_le _, rfl, HQ0.out⟩
  case round =>
    clear HQ0
    obtain ⟨t, ht, rfl, hQ⟩ := hrel
    have HQ : Hid (MidC w.heap.size (w.heap.size + 1) wr (some ⟨w.heap.size, 0, none⟩) (mnL n t) n ∧ Below w.heap.size w wr ∧ w.heap.size + 1 ≤ wr.heap.size) := hQ
    clear hQ
    by_cases hlt : t < n
    · obtain ⟨b', o', hbo, _, _, c3, f3⟩ := HQ.out.1.at (i := t) (by rw [mnL_len ht]; exact hlt)
      cases hbo
      rw [Nat.zero_add] at c3 f3
      have HQ6 : Hid (MidC w.heap.size (w.heap.size + 1) (wr.setCell ⟨w.heap.size, t, none⟩ (.int .i64 (-1))) (some ⟨w.heap.size, 0, none⟩) (mnL n (t + 1)) n ∧ Below w.heap.size w (wr.setCell ⟨w.heap.size, t, none⟩ (.int .i64 (-1))) ∧ w.heap.size + 1 ≤ (wr.setCell ⟨w.heap.size, t, none⟩ (.int .i64 (-1))).heap.size) := by
        rw [← mnL_next hlt]
        exact ⟨put0 HQ.out.1 (by rw [mnL_len ht]; exact hlt) _, HQ.out.2.1.setCell (p := ⟨w.heap.size, t, none⟩) (Nat.le_refl _) _, by have := HQ.out.2.2; simp [World.setCell]; omega⟩
      clear HQ
      go_wp2_with fail
      exact ⟨⟨t + 1, by omega, by go_num, HQ6.out⟩, by simp [intOf]; omega⟩
    · obtain rfl : t = n := by omega
      obtain ⟨b', o', hbo, _, _, c3, f3⟩ := HQ.out.1.at (i := i) (by rw [mnL_len (Nat.le_refl _)]; exact HII.out)
      cases hbo
      rw [Nat.zero_add] at c3 f3
      obtain ⟨w2, HW2⟩ : ∃ x, Hid (x = (wr.setCell ⟨w.heap.size, i, none⟩ (.int .i64 0))) := ⟨_, rfl⟩
      obtain ⟨T0, hT0⟩ : ∃ T, T = (mnL t t).set i 0 := ⟨_, rfl⟩
      have HT0 : Hid (T0.length = t ∧ Bl R t i (nth T0) 0 0 0 (0 * m)) := by
        have h := mnL_first (R := R) HII.out
        rw [← hT0] at h
        rw [Nat.zero_mul]
        exact ⟨h.1, h.2.2⟩
      have HQ3 : Hid (MidC w.heap.size (w.heap.size + 1) w2 (some ⟨w.heap.size, 0, none⟩) T0 t ∧ Below w.heap.size w w2 ∧ w.heap.size + 1 ≤ w2.heap.size) := by
        rw [HW2.out, hT0]
        exact ⟨put0 HQ.out.1 (by rw [mnL_len (Nat.le_refl _)]; exact HII.out) _, HQ.out.2.1.setCell (p := ⟨w.heap.size, i, none⟩) (Nat.le_refl _) _, by have := HQ.out.2.2; simp [World.setCell]; omega⟩
      clear HQ hT0
      go_wp2_with fail
      rw [← HW2.out]
      clear HW2 c3 f3
      go_loopw [9] (fun q wr => ∃ (r : Nat) (T : List Int), r ≤ t ∧ q = .int .i64 (r : Nat) ∧ MidC w.heap.size (w.heap.size + 1) wr (some ⟨w.heap.size, 0, none⟩) T t ∧ Below w.heap.size w wr ∧ w.heap.size + 1 ≤ wr.heap.size ∧ Hid (T.length = t ∧ Bl R t i (nth T) r 0 0 (r * m))) (fun q _ => t - (intOf q).toNat)
      case atStart => exact ⟨0, T0, Nat.zero_le _, rfl, HQ3.out.1, HQ3.out.2.1, HQ3.out.2.2, HT0.out⟩
      case round =>
        clear HQ3 HT0
        obtain ⟨r, T, hr, rfl, q1, q2, q3, HF⟩ := hrel
        have HQ : Hid (MidC w.heap.size (w.heap.size + 1) wr (some ⟨w.heap.size, 0, none⟩) T t ∧ Below w.heap.size w wr ∧ w.heap.size + 1 ≤ wr.heap.size) := ⟨q1, q2, q3⟩
        clear q1 q2 q3
        by_cases hrl : r < t
        · obtain ⟨Q, hQ⟩ : ∃ Q, Q = r * m := ⟨_, rfl⟩
          have HQm : Hid (Q = r * m ∧ Q ≤ 24 * 576) := ⟨hQ, by rw [hQ]; exact Nat.mul_le_mul (by omega) h576⟩
          rw [← hQ] at HF
          clear hQ
          have HRl : Hid (r < t) := hrl
          go_wp2_with fail
          go_loopw [10] (fun q wr => ∃ (a : Nat) (T : List Int), a ≤ t ∧ q = .int .i64 (a : Nat) ∧ MidC w.heap.size (w.heap.size + 1) wr (some ⟨w.heap.size, 0, none⟩) T t ∧ Below w.heap.size w wr ∧ w.heap.size + 1 ≤ wr.heap.size ∧ Hid (T.length = t ∧ Bl R t i (nth T) r a 0 (Q + a * t))) (fun q _ => t - (intOf q).toNat)
          case atStart => exact ⟨0, T, Nat.zero_le _, rfl, HQ.out.1, HQ.out.2.1, HQ.out.2.2, by rw [Nat.zero_mul]; exact HF.out⟩
          case round =>
            clear HQ HF
            obtain ⟨a, T, ha, rfl, q1, q2, q3, HF⟩ := hrel
            have HQ : Hid (MidC w.heap.size (w.heap.size + 1) wr (some ⟨w.heap.size, 0, none⟩) T t ∧ Below w.heap.size w wr ∧ w.heap.size + 1 ≤ wr.heap.size) := ⟨q1, q2, q3⟩
            clear q1 q2 q3
            by_cases hal : a < t
            · obtain ⟨P, hP⟩ : ∃ P, P = a * t := ⟨_, rfl⟩
              have hPi : (a : Int) * (t : Int) = (P : Int) := by rw [hP]; simp
              have HP : Hid (P = a * t ∧ P + t ≤ m ∧ a < t) := ⟨hP, by rw [hP, HN.out.2.1, ← Nat.succ_mul]; exact Nat.mul_le_mul_right t hal, hal⟩
              have hPm : P + t ≤ m := HP.out.2.1
              rw [← hP] at HF
              clear hP
              go_wp2_with fail
              go_loopw [11] (fun q wr => ∃ (b : Nat) (T : List Int), b ≤ t ∧ q = .int .i64 (b : Nat) ∧ MidC w.heap.size (w.heap.size + 1) wr (some ⟨w.heap.size, 0, none⟩) T t ∧ Below w.heap.size w wr ∧ w.heap.size + 1 ≤ wr.heap.size ∧ Hid (T.length = t ∧ Bl R t i (nth T) r a b (Q + P + b))) (fun q _ => t - (intOf q).toNat)
              case atStart => exact ⟨0, T, Nat.zero_le _, rfl, HQ.out.1, HQ.out.2.1, HQ.out.2.2, HF.out⟩
              case round =>
                clear HQ HF
                obtain ⟨b, T, hb, rfl, q1, q2, q3, HF⟩ := hrel
                have HQ : Hid (MidC w.heap.size (w.heap.size + 1) wr (some ⟨w.heap.size, 0, none⟩) T t ∧ Below w.heap.size w wr ∧ w.heap.size + 1 ≤ wr.heap.size) := ⟨q1, q2, q3⟩
                clear q1 q2 q3
                by_cases hbl : b < t
                · obtain ⟨I0, hI0⟩ : ∃ I0 : Nat, I0 = P + b := ⟨_, rfl⟩
                  have hw1 : IntKind.i64.wrap (P : Int) = (P : Int) := by rw [IntWalk.i64_left]; exact w_small (by omega) (by omega)
                  have hw2 : IntKind.i64.wrap ((P : Int) + (b : Int)) = (I0 : Int) := by rw [IntWalk.i64_left, show ((P : Int) + (b : Int)) = (I0 : Int) by omega]; exact w_small (by omega) (by omega)
                  have hPb : I0 < m := by omega
                  have iPb : (I0 : Int) < (m : Int) := by omega
                  obtain ⟨bd, od, rfl, _, hcd⟩ := (HI.out.below HQ.out.2.1).at (q := I0) (by rw [HN.out.1]; exact hPb)
                  have c1 := hcd I0 (by rw [HN.out.1]; exact hPb)
                  have HI0 : Hid (I0 = P + b) := hI0
                  clear hcd
                  obtain ⟨_, _, he1, _, _, d1, f1⟩ := HQ.out.1.at (i := b) (by rw [HF.out.1]; exact hbl)
                  cases he1
                  obtain ⟨_, _, he2, _, _, d2, _⟩ := HQ.out.1.at (i := a) (by rw [HF.out.1]; exact hal)
                  cases he2
                  rw [Nat.zero_add] at d1 f1 d2
                  have ib : (b : Int) < (t : Int) := by omega
                  have ia : (a : Int) < (t : Int) := by omega
                  obtain ⟨x, hx⟩ : ∃ x, x = nth dz I0 := ⟨_, rfl⟩
                  obtain ⟨tb, htb⟩ : ∃ z, z = nth T b := ⟨_, rfl⟩
                  obtain ⟨ta, hta⟩ : ∃ z, z = nth T a := ⟨_, rfl⟩
                  rw [← hx] at c1
                  rw [← htb] at d1
                  rw [← hta] at d2
                  have HX : Hid (R a b = (x == 1) ∧ tb = nth T b ∧ ta = nth T a) := ⟨by rw [HN.out.2.2 a hal b hbl, hx, hI0, HP.out.1], htb, hta⟩
                  have hbd : ta ≤ 14500 := by have h := HF.out.2.bnd a hal; rw [← hta] at h; have := HQm.out.2; omega
                  have HSk : ¬ (x = 1 ∧ 0 ≤ ta ∧ (tb < 0 ∨ ta + 1 < tb)) → Hid (Bl R t i (nth T) r a (b + 1) (Q + P + (b + 1))) := fun e => HF.out.2.skip (by rw [HX.out.1, ← HX.out.2.1, ← HX.out.2.2]; intro h; exact e ⟨by simpa using h.1, h.2⟩)
                  have HPt : x = 1 → 0 ≤ ta → (tb < 0 ∨ ta + 1 < tb) → Hid (∀ k : Nat, MidC w.heap.size (w.heap.size + 1) ((wr.drewN k).setCell ⟨w.heap.size, b, none⟩ (.int .i64 (ta + 1))) (some ⟨w.heap.size, 0, none⟩) (T.set b (ta + 1)) t ∧ Below w.heap.size w ((wr.drewN k).setCell ⟨w.heap.size, b, none⟩ (.int .i64 (ta + 1))) ∧ w.heap.size + 1 ≤ ((wr.drewN k).setCell ⟨w.heap.size, b, none⟩ (.int .i64 (ta + 1))).heap.size ∧ Hid ((T.set b (ta + 1)).length = t ∧ Bl R t i (nth (T.set b (ta + 1))) r a (b + 1) (Q + P + (b + 1)))) := fun e1 e2 e3 k => by
                    have h := HF.out.2.put hal hbl (by rw [HX.out.1, e1]; rfl) (by rw [← HX.out.2.2]; exact e2) (by rw [← HX.out.2.1, ← HX.out.2.2]; exact e3)
                    rw [← HX.out.2.2] at h
                    exact ⟨put0 (W := wr.drewN k) HQ.out.1 (by rw [HF.out.1]; exact hbl) _, (bel_drewN HQ.out.2.1 k).setCell (p := ⟨w.heap.size, b, none⟩) (Nat.le_refl _) _, by have := HQ.out.2.2; simp [World.setCell]; omega, by rw [List.length_set]; exact HF.out.1, by rw [pti_nth (by rw [HF.out.1]; exact hbl)]; exact h⟩
                  have HDr : Hid (∀ k : Nat, MidC w.heap.size (w.heap.size + 1) (wr.drewN k) (some ⟨w.heap.size, 0, none⟩) T t ∧ Below w.heap.size w (wr.drewN k) ∧ w.heap.size + 1 ≤ (wr.drewN k).heap.size) := fun k => ⟨HQ.out.1, bel_drewN HQ.out.2.1 k, HQ.out.2.2⟩
                  clear hx htb hta hI0
                  by_cases hx1 : x = 1
                  · have t1 : (x == 1) = true := by simpa using hx1
                    by_cases ha0 : 0 ≤ ta
                    · have hw : IntKind.i64.wrap (ta + 1) = ta + 1 := by rw [IntWalk.i64_left]; exact w_small (by omega) (by omega)
                      by_cases hb0 : tb < 0
                      · have HT := HPt hx1 ha0 (.inl hb0)
                        clear HSk HPt HQ HDr
                        go_wp2_with fail
                        go_quiet (fail)
                        go_wp2_with fail
                        exact ⟨⟨b + 1, T.set b (ta + 1), by omega, by go_num, (HT.out _).1, (HT.out _).2.1, (HT.out _).2.2.1, (HT.out 0).2.2.2.out⟩, by simp [intOf]; omega⟩
                      · by_cases hgt : ta + 1 < tb
                        · have HT := HPt hx1 ha0 (.inr hgt)
                          clear HSk HPt HQ HDr
                          go_wp2_with fail
                          go_quiet (fail)
                          go_wp2_with fail
                          exact ⟨⟨b + 1, T.set b (ta + 1), by omega, by go_num, (HT.out _).1, (HT.out _).2.1, (HT.out _).2.2.1, (HT.out 0).2.2.2.out⟩, by simp [intOf]; omega⟩
                        · have HT := HSk (fun e => e.2.2.elim hb0 hgt)
                          clear HSk HPt HQ
                          go_wp2_with fail
                          go_quiet (fail)
                          go_wp2_with fail
                          exact ⟨⟨b + 1, T, by omega, by go_num, (HDr.out _).1, (HDr.out _).2.1, (HDr.out _).2.2, HF.out.1, HT.out⟩, by simp [intOf]; omega⟩
                    · have ta0 : decide (0 ≤ ta) = false := decide_eq_false ha0
                      have HT := HSk (fun e => ha0 e.2.1)
                      clear HSk HPt HQ
                      go_wp2_with fail
                      go_quiet (fail)
                      go_wp2_with fail
                      exact ⟨⟨b + 1, T, by omega, by go_num, (HDr.out _).1, (HDr.out _).2.1, (HDr.out _).2.2, HF.out.1, HT.out⟩, by simp [intOf]; omega⟩
                  · have t1 : (x == 1) = false := by simpa using hx1
                    have HT := HSk (fun e => hx1 e.1)
                    clear HSk HPt HQ
                    go_wp2_with fail
                    go_quiet (fail)
                    go_wp2_with fail
                    exact ⟨⟨b + 1, T, by omega, by go_num, (HDr.out _).1, (HDr.out _).2.1, (HDr.out _).2.2, HF.out.1, HT.out⟩, by simp [intOf]; omega⟩
                · obtain rfl : b = t := by omega
                  go_wp2_with fail
                  exact ⟨⟨a + 1, T, by omega, by go_num, HQ.out.1, HQ.out.2.1, HQ.out.2.2, HF.out.1, by have h := HF.out.2.row; rw [Nat.succ_mul, ← HP.out.1, ← Nat.add_assoc]; exact h⟩, by simp [intOf]; omega⟩
            · obtain rfl : a = t := by omega
              go_wp2_with fail
              exact ⟨⟨r + 1, T, by have := HRl.out; omega, by go_num, HQ.out.1, HQ.out.2.1, HQ.out.2.2, HF.out.1, by have h := HF.out.2.next HII.out; rw [Nat.succ_mul, ← HQm.out.1]; rw [← HN.out.2.1] at h; exact h⟩, by simp [intOf]; have := HRl.out; omega⟩
        · obtain rfl : r = t := by omega
          have HT : Hid (T = frL r R i) := frL_is HF.out.1 fun j hj => HF.out.2.done HII.out hj
          go_wp2_with fail
          go_ret
          exact ⟨some ⟨w.heap.size, 0, none⟩, rfl, by rw [← HR.out, ← HT.out]; exact HQ.out.1.newc HQ.out.2.2 (Nat.le_refl _), HQ.out.2.1⟩
end Go.Proofs.YtgaelbgeoobgiaaDoor
