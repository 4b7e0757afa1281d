/-
  The walk of the statement on the greatest common divisor.
-/
import Derived.Test.YteiohkajbokekaaDoorErr
import Derived.Test.YteiohkajbokekaaDoorBez
import Derived.Test.YteiohkajbokekaaDoorReuc
namespace Go.Proofs.YteiohkajbokekaaDoor
open Go.RowKit
set_option linter.unusedVariables false

theorem in63_of {a : Int} (h : In64 a) (hn : a ≠ -9223372036854775808) : In63 a := by unfold In63 In64 at *; omega
theorem nz_neg {g v : Int} (h : g < 0) : nz g v = wrap64 (-v) := by unfold nz; rw [if_pos h, ls_neg]
theorem nz_pos {g v : Int} (h : ¬ g < 0) : nz g v = v := by unfold nz; rw [if_neg h]
set_option maxRecDepth 100000 in
set_option maxHeartbeats 1000000 in
theorem bezouts_no (a b : Int) (h : a = -9223372036854775808 ∨ b = -9223372036854775808) (w : World) (hg : HasErr w) : Calls Tryd.prog 4 #[.int .i64 a, .int .i64 b] w fun e w' => e = .returned (.bool true) ∧ Below w.heap.size w w' := by
  have HG : Hid (HasErr w) := hg
  have H : Hid (a = -9223372036854775808 ∨ b = -9223372036854775808) := h
  have u1 : (bz1 6 4 == 2) = true := by decide +kernel
  have u2 : (bz2 6 4 == 1) = true := by decide +kernel
  have u3 : (bz3 6 4 == -1) = true := by decide +kernel
  clear hg
  by_cases ha : a = -9223372036854775808
  · have t1 : (a == -9223372036854775808) = true := by simp [ha]
    clear h ha
    go_enter Tryd.func4, Tryd.ntmps4
    go_wp2_with fail
    refine (bez_no a b H.out w).mono ?_
    rintro e w2 ⟨rfl, hw⟩
    obtain rfl : w = w2 := hw.symm
    go_wp2_with fail
    refine (error_same 6 w HG.out).mono ?_
    rintro e w4 ⟨rfl, hB4⟩
    go_wp2_with fail
    refine (bez_ok 6 4 (by unfold In63; decide) (by unfold In63; decide) w4).mono ?_
    rintro e w5 ⟨rfl, hC5⟩
    have hB5 : Below w.heap.size w w5 := hB4.trans (hC5.mono hB4.size)
    go_wp2_with fail
    go_ret
    exact ⟨rfl, hB5⟩
  · have t1 : (a == -9223372036854775808) = false := by simp [ha]
    have t2 : (b == -9223372036854775808) = true := by simp [h.resolve_left ha]
    clear h ha
    go_enter Tryd.func4, Tryd.ntmps4
    go_wp2_with fail
    refine (bez_no a b H.out w).mono ?_
    rintro e w2 ⟨rfl, hw⟩
    obtain rfl : w = w2 := hw.symm
    go_wp2_with fail
    refine (error_same 6 w HG.out).mono ?_
    rintro e w4 ⟨rfl, hB4⟩
    go_wp2_with fail
    refine (bez_ok 6 4 (by unfold In63; decide) (by unfold In63; decide) w4).mono ?_
    rintro e w5 ⟨rfl, hC5⟩
    have hB5 : Below w.heap.size w w5 := hB4.trans (hC5.mono hB4.size)
    go_wp2_with fail
    go_ret
    exact ⟨rfl, hB5⟩
set_option maxRecDepth 100000 in
set_option maxHeartbeats 1000000 in
theorem bezouts_yes (a b : Int) (ha : In63 a) (hb : In63 b) (w : World) (hg : HasErr w) : Calls Tryd.prog 4 #[.int .i64 a, .int .i64 b] w fun e w' => e = .returned (.bool true) ∧ Below w.heap.size w w' := by
  have HG : Hid (HasErr w) := hg
  have H : Hid (In63 a ∧ In63 b) := ⟨ha, hb⟩
  have u1 : (bz1 6 4 == 2) = true := by decide +kernel
  have u2 : (bz2 6 4 == 1) = true := by decide +kernel
  have u3 : (bz3 6 4 == -1) = true := by decide +kernel
  have t1 : (a == -9223372036854775808) = false := by unfold In63 at ha; simp; omega
  have t2 : (b == -9223372036854775808) = false := by unfold In63 at hb; simp; omega
  clear hg ha hb
  by_cases hn : (euc a b).1 < 0
  · have tn : decide ((euc a b).1 < 0) = true := by simp [hn]
    have v1 : (bz1 a b == wrap64 (-(euc a b).1)) = true := beq_of (nz_neg hn)
    have v2 : (bz2 a b == wrap64 (-(euc a b).2.1)) = true := beq_of (nz_neg hn)
    have v3 : (bz3 a b == wrap64 (-(euc a b).2.2)) = true := beq_of (nz_neg hn)
    clear hn
    go_enter Tryd.func4, Tryd.ntmps4
    go_wp2_with fail
    refine (reuc_any a b H.out.1 H.out.2 w).mono ?_
    rintro e w1 ⟨rfl, hw⟩
    obtain rfl : w = w1 := hw.symm
    go_wp2_with fail
    refine (bez_ok a b H.out.1 H.out.2 w).mono ?_
    rintro e w2 ⟨rfl, hB2⟩
    go_wp2_with fail
    refine (error_same 0 w2 (HG.out.below hB2 HG.out.pos)).mono ?_
    rintro e w4 ⟨rfl, hC4⟩
    have hB4 : Below w.heap.size w w4 := hB2.trans (hC4.mono hB2.size)
    go_wp2_with fail
    refine (bez_ok 6 4 (by unfold In63; decide) (by unfold In63; decide) w4).mono ?_
    rintro e w5 ⟨rfl, hC5⟩
    have hB5 : Below w.heap.size w w5 := hB4.trans (hC5.mono hB4.size)
    go_wp2_with fail
    go_ret
    exact ⟨rfl, hB5⟩
  · have tn : decide ((euc a b).1 < 0) = false := by simp; omega
    have v1 : (bz1 a b == (euc a b).1) = true := beq_of (nz_pos hn)
    have v2 : (bz2 a b == (euc a b).2.1) = true := beq_of (nz_pos hn)
    have v3 : (bz3 a b == (euc a b).2.2) = true := beq_of (nz_pos hn)
    clear hn
    go_enter Tryd.func4, Tryd.ntmps4
    go_wp2_with fail
    refine (reuc_any a b H.out.1 H.out.2 w).mono ?_
    rintro e w1 ⟨rfl, hw⟩
    obtain rfl : w = w1 := hw.symm
    go_wp2_with fail
    refine (bez_ok a b H.out.1 H.out.2 w).mono ?_
    rintro e w2 ⟨rfl, hB2⟩
    go_wp2_with fail
    refine (error_same 0 w2 (HG.out.below hB2 HG.out.pos)).mono ?_
    rintro e w4 ⟨rfl, hC4⟩
    have hB4 : Below w.heap.size w w4 := hB2.trans (hC4.mono hB2.size)
    go_wp2_with fail
    refine (bez_ok 6 4 (by unfold In63; decide) (by unfold In63; decide) w4).mono ?_
    rintro e w5 ⟨rfl, hC5⟩
    have hB5 : Below w.heap.size w w5 := hB4.trans (hC5.mono hB4.size)
    go_wp2_with fail
    go_ret
    exact ⟨rfl, hB5⟩
theorem bezouts_walk (a b : Int) (ha : In64 a) (hb : In64 b) (w : World) (hg : HasErr w) : Calls Tryd.prog 4 #[.int .i64 a, .int .i64 b] w fun e w' => e = .returned (.bool true) ∧ Below w.heap.size w w' := by
  by_cases h : a = -9223372036854775808 ∨ b = -9223372036854775808
  · exact bezouts_no a b h w hg
  · exact bezouts_yes a b (in63_of ha (fun e => h (.inl e))) (in63_of hb (fun e => h (.inr e))) w hg
end Go.Proofs.YteiohkajbokekaaDoor
