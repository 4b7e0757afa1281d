/-
  The small functions of package cut: fills, numbers one behind the other, what is asked of a mask, blocks.
-/
import Derived.Test.YtpcpokeehnkobaaCutj
import Derived.Test.YtpcpokeehnkobaaCutf
import Derived.Test.YtpcpokeehnkobaaCutq
import Derived.Test.YtpcpokeehnkobaaBase
namespace Go.Proofs.Ytpcpokeehnkobaa
open Go.RowKit
set_option linter.unusedVariables false

set_option maxRecDepth 100000 in
theorem fll_any (c : Bool) (w : World) : Calls Try.prog 40 #[.bool c] w fun e w' => e = .returned (.int .i64 (fillE c)) ∧ w' = w := by
  cases c
  all_goals
    go_enter Try.func40, Try.ntmps40
    go_wp2_with fail
    go_ret
    exact ⟨rfl, rfl⟩
set_option maxRecDepth 100000 in
set_option maxHeartbeats 1000000 in
theorem run_n (f : Int) (mi : Int) (m : Nat) (hmi : mi = m) (hf0 : -1000000 ≤ f) (hf1 : f ≤ 1000000) (hm : m ≤ 4096) (w : World) :
    Calls Try.prog 39 #[.int .i64 f, .int .i64 mi] w fun e w' => ∃ g c, e = .returned (.slice g m c) ∧ NewC w.heap.size w' g (runL f m) c ∧ Below w.heap.size w w' := by
  subst hmi
  have hmk := run_make_row' (P := Try.prog) 23 3 (.int .i64 0) 8 Try.underlying23 Try.infoInt rfl .i64 .i64 m (by omega) (by omega)
  go_enter Try.func39, Try.ntmps39
  go_wp2_with fail
  clear hmk
  go_loopw [11] (fun i wr => ∃ k : Nat, k ≤ m ∧ i = .int .i64 k ∧ wr.rowIs w.heap.size 3 m (upTo (nth (runL f m)) k) ∧ Below w.heap.size w wr) (fun i _ => m - (intOf i).toNat)
  case atStart => exact ⟨0, Nat.zero_le _, rfl, (World.rowIs_made w (.int .i64 0) m 3).congr (fun j _ => by simp [upTo]), (Below.refl _ w).alloc (Nat.le_refl _) _⟩
  case round =>
    obtain ⟨k, hk, rfl, hrow, hB⟩ := hrel
    by_cases hlt : k < m
    · have HV : Hid (f + (k : Int) = nth (runL f m) k) := (runL_nth f hlt).symm
      have c2 := hrow.cell hlt
      have f2 := hrow.frozen k
      have HQ : Hid (wr.rowIs w.heap.size 3 m (upTo (nth (runL f m)) k) ∧ Below w.heap.size w wr) := ⟨hrow, hB⟩
      clear hrow hB
      go_wp2_with fail
      refine ⟨⟨k + 1, by omega, by go_num, upTo_set HQ.out.1 _ HV.out, HQ.out.2.setCell (p := ⟨w.heap.size, k, none⟩) (Nat.le_refl _) _⟩, by simp [intOf]; omega⟩
    · obtain rfl : k = m := by omega
      have HQ : Hid (wr.rowIs w.heap.size 3 k (upTo (nth (runL f k)) k) ∧ Below w.heap.size w wr) := ⟨hrow, hB⟩
      clear hrow hB
      go_wp2_with fail
      go_ret
      exact ⟨some ⟨w.heap.size, 0, none⟩, k, rfl, ⟨upTo_new HQ.out.1 (Nat.le_refl _) _ (runL_length f k) (fun j hj => rfl), by rw [runL_length]; exact Nat.le_refl _⟩, HQ.out.2⟩
set_option maxRecDepth 100000 in
theorem end_any (n l : Int) (h0 : -4096 ≤ n) (h1 : n ≤ 4096) (l0 : 0 ≤ l) (l1 : l ≤ 4096) (w : World) :
    Calls Try.prog 30 #[.int .i64 n, .int .i64 l] w fun e w' => ∃ g c, e = .returned (.slice g (endL n l).length c) ∧ NewC w.heap.size w' g (endL n l) c ∧ Below w.heap.size w w' := by
  by_cases hn : n < 0
  · have HE : Hid (endL n l = runL (l + n) (-n).toNat) := by show _ = _; unfold endL tks; rw [if_neg (by omega), if_neg (by omega)]
    go_enter Try.func30, Try.ntmps30
    go_wp2_with fail
    refine (run_n (l + n) (-n) (-n).toNat (by omega) (by omega) (by omega) (by omega) w).mono ?_
    rintro e w' ⟨g, c, rfl, hN, hB⟩
    go_wp2_with fail
    go_ret
    rw [HE.out, runL_length]
    exact ⟨g, c, rfl, hN, hB⟩
  · have HE : Hid (endL n l = runL 0 n.toNat) := by show _ = _; unfold endL tks; rw [if_pos (by omega), if_pos (by omega)]
    go_enter Try.func30, Try.ntmps30
    go_wp2_with fail
    refine (run_n 0 n n.toNat (by omega) (by omega) (by omega) (by omega) w).mono ?_
    rintro e w' ⟨g, c, rfl, hN, hB⟩
    go_wp2_with fail
    go_ret
    rw [HE.out, runL_length]
    exact ⟨g, c, rfl, hN, hB⟩
set_option maxRecDepth 100000 in
theorem rest_any (n l : Int) (hn : In64 n) (l0 : 0 ≤ l) (l1 : l ≤ 4096) (w : World) :
    Calls Try.prog 19 #[.int .i64 n, .int .i64 l] w fun e w' => e = .returned (.int .i64 (rst n l)) ∧ w' = w := by
  obtain ⟨hn0, hn1⟩ := hn
  by_cases hn : n < 0
  · have HE : Hid (rst n l = max (l + n) 0) := by show _ = _; unfold rst; rw [if_pos hn]
    go_enter Try.func19, Try.ntmps19
    go_wp2_with fail
    all_goals
      go_ret
      refine ⟨ret_int ?_, rfl⟩
      rw [HE.out]
      omega
  · have HE : Hid (rst n l = -max (l - n) 0) := by show _ = _; unfold rst; rw [if_neg hn]
    go_enter Try.func19, Try.ntmps19
    go_wp2_with fail
    all_goals
      go_ret
      refine ⟨ret_int ?_, rfl⟩
      rw [HE.out]
      omega
end Go.Proofs.Ytpcpokeehnkobaa
