/-
  The walk of the statement on the order of places.
-/
import Derived.Deep.QuietTactic
import Derived.BigQuiet
import Derived.Test.YtoicddebjmfobaaTold
namespace Go.Proofs.Ytoicddebjmfobaa
open Go.RowKit
set_option linter.unusedVariables false

theorem at_fact (w : World) : Calls Try.prog 7 #[.slice (some ⟨w.heap.size, 0, none⟩) 2 2, .int .i64 4] (w.alloc (.cells #[.int .i64 2, .int .i64 3] 3)) fun e w' =>
    ∃ b off cap', e = .returned (.tuple #[.slice (some ⟨b, off, none⟩) 2 cap', .nilIface]) ∧ w'.cell? ⟨b, off, none⟩ = some (.int .i64 1) ∧ w'.cell? ⟨b, off + 1, none⟩ = some (.int .i64 1) ∧ Below w.heap.size w w' := by
  have hv : atVal [2, 3] 4 = [1, 1] := by decide
  have h := at_ok (some ⟨w.heap.size, 0, none⟩) 2 [2, 3] 4 (by omega) (by omega) (by simp) _ (ints_new2 w 3 2 3) (by decide)
  rw [hv] at h
  refine Calls.mono h ?_
  rintro e w' ⟨a', cap', rfl, hI, hB⟩
  obtain ⟨b, off, rfl, _, hc⟩ := hI.at (q := 0) (by simp)
  exact ⟨b, off, cap', rfl, hc 0 (by simp), hc 1 (by simp), ((Below.refl _ w).alloc (Nat.le_refl _) _).trans (hB.mono (by simp))⟩

set_option maxRecDepth 100000 in
set_option maxHeartbeats 4000000 in
theorem order_walk (a : Option Addr) (cap : Nat) (zs : List Int) (p q : Int) (hp1 : -9223372036854775808 ≤ p) (hp2 : p ≤ 9223372036854775807) (hq1 : -9223372036854775808 ≤ q) (hq2 : q ≤ 9223372036854775807) (hreach : zs.length ≤ 9223372036854775807) (w : World) (hI : IsInts w.heap.size w a zs) :
    Calls Try.prog 4 #[.slice a zs.length cap, .int .i64 p, .int .i64 q] w fun e w' => e = .returned (.bool true) ∧ Below w.heap.size w w' := by
  go_enter Try.func4, Try.ntmps4
  go_wp2_with fail
  refine (at_fact w).mono ?_
  rintro e w1 ⟨b1, o1, k1, rfl, hc0, hc1, hB1⟩
  by_cases h1 : atErr zs p = 0
  · have H1 : Hid (atErr zs p = 0) := h1
    clear h1
    go_wp2_with fail
    refine (at_ok a cap zs p hp1 hp2 hreach w1 ((hI.below hB1).mono hB1.size) H1.out).mono ?_
    rintro e w2 ⟨a2, k2, rfl, hX, hB2'⟩
    have hB2 : Below w.heap.size w w2 := hB1.trans (hB2'.mono hB1.size)
    clear hc0 hc1
    by_cases h2 : atErr zs q = 0
    · have H2 : Hid (atErr zs q = 0) := h2
      clear h2
      go_wp2_with fail
      refine (at_ok a cap zs q hq1 hq2 hreach w2 ((hI.below hB2).mono hB2.size) H2.out).mono ?_
      rintro e w3 ⟨a3, k3, rfl, hY, hB3'⟩
      have hB3 : Below w.heap.size w w3 := hB2.trans (hB3'.mono hB2.size)
      replace hX := hX.below hB3'
      have hlx := atVal_len H1.out
      have hly := atVal_len H2.out
      have hle : (((atVal zs p).length : Int) != ((atVal zs q).length : Int)) = false := by rw [hlx, hly]; simp
      obtain ⟨i1, q1⟩ := at_back H1.out
      obtain ⟨i2, q2⟩ := at_back H2.out
      replace i1 := (plErr_zero.1 i1).2
      replace i2 := (plErr_zero.1 i2).2
      have HX : Hid ((atVal zs p).length = zs.length ∧ insB zs (atVal zs p) = true ∧ place zs (atVal zs p) = p) := ⟨hlx, i1, q1⟩
      have HY : Hid ((atVal zs q).length = zs.length ∧ insB zs (atVal zs q) = true ∧ place zs (atVal zs q) = q) := ⟨hly, i2, q2⟩
      have hrx : (atVal zs p).length ≤ 9223372036854775807 := by rw [hlx]; exact hreach
      have hly' : (atVal zs p).length = (atVal zs q).length := by rw [hlx, hly]
      have HL : Hid ((atVal zs p).length = (atVal zs q).length) := hly'
      clear hlx hly i1 i2 q1 q2 hly'
      generalize atVal zs p = xs at *
      generalize atVal zs q = ys at *
      go_wp2_with fail
      go_loopw [13] (fun i wr => ∃ k : Nat, k ≤ xs.length ∧ i = .int .i64 k ∧ (∀ j, j < k → nth xs j = nth ys j) ∧ ∃ m, wr = w3.drewN m) (fun i _ => xs.length - (intOf i).toNat)
      case atStart => exact ⟨0, Nat.zero_le _, rfl, fun j hj => by omega, 0, rfl⟩
      case round =>
        obtain ⟨k, hk, rfl, hsame, m, rfl⟩ := hrel
        have HS : Hid (∀ j, j < k → nth xs j = nth ys j) := hsame
        clear hsame
        by_cases hlt : k < xs.length
        · obtain ⟨b, off, rfl, hb, hcell⟩ := hX.at hlt
          have hlt' : k < ys.length := by rw [← HL.out]; exact hlt
          obtain ⟨b', off', rfl, hb', hcell'⟩ := hY.at hlt'
          have hc := hcell k hlt
          have hc' := hcell' k hlt'
          clear hcell hcell'
          by_cases he : nth xs k = nth ys k
          · have hne : (nth xs k != nth ys k) = false := by simp [he]
            have HE : Hid (nth xs k = nth ys k) := he
            clear he
            go_wp2_with fail
            go_quiet (fail)
            go_wp2
            go_roundw
            case rel => exact ⟨k + 1, by omega, by go_num, fun j hj => by by_cases e : j = k; · rw [e]; exact HE.out
                                                                          · exact HS.out j (by omega), _, rfl⟩
            case measure => simp [intOf]; omega
          · have hne : (nth xs k != nth ys k) = true := by simp [he]
            have hord := place_order k HX.out.2.1 HY.out.2.1 (by rw [← HX.out.1]; exact hlt) HS.out he
            rw [HX.out.2.2, HY.out.2.2] at hord
            have hfin : (decide (p < q) == decide (nth xs k < nth ys k)) = true := by
              by_cases h : p < q
              · simp [h, hord.1 h]
              · have h' : ¬ nth xs k < nth ys k := fun e => h (hord.2 e)
                simp only [h, h']; decide
            clear hord he
            go_wp2_with fail
            go_quiet (fail)
            go_wp2
            go_quiet (fail)
            go_wp2
            go_ret
            exact ⟨rfl, bel_drewN (bel_drewN (bel_drewN hB3 _) _) _⟩
        · obtain rfl : k = xs.length := by omega
          have hpq : p = q := by rw [← HX.out.2.2, ← HY.out.2.2, nth_ext HL.out HS.out]
          have hfin : (p == q) = true := by simp [hpq]
          clear hpq
          go_wp2_with fail
          go_ret
          exact ⟨rfl, bel_drewN hB3 _⟩
    · have H2 : Hid (atErr zs q ≠ 0) := h2
      clear h2
      go_wp2_with fail
      refine (at_no a cap zs q hq1 hq2 hreach w2 ((hI.below hB2).mono hB2.size) H2.out).mono ?_
      rintro e w3 ⟨a3, k3, rfl, hB3'⟩
      have hB3 : Below w.heap.size w w3 := hB2.trans (hB3'.mono hB2.size)
      go_wp2_with fail
      go_ret
      exact ⟨rfl, hB3⟩
  · have H1 : Hid (atErr zs p ≠ 0) := h1
    clear h1
    go_wp2_with fail
    refine (at_no a cap zs p hp1 hp2 hreach w1 ((hI.below hB1).mono hB1.size) H1.out).mono ?_
    rintro e w2 ⟨a2, k2, rfl, hB2'⟩
    have hB2 : Below w.heap.size w w2 := hB1.trans (hB2'.mono hB1.size)
    clear hc0 hc1
    go_wp2_with fail
    refine (at_any a cap zs q hq1 hq2 hreach w2 ((hI.below hB2).mono hB2.size)).mono ?_
    rintro e w3 ⟨a3, k3, rfl, _, hB3'⟩
    have hB3 : Below w.heap.size w w3 := hB2.trans (hB3'.mono hB2.size)
    go_wp2_with fail
    go_ret
    exact ⟨rfl, hB3⟩
end Go.Proofs.Ytoicddebjmfobaa
