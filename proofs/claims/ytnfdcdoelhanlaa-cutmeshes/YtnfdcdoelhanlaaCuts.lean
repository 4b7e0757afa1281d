/-
  The small functions of package cut: fills, numbers one behind the other, what is asked of a mask, blocks.
-/
import Derived.Test.YtnfdcdoelhanlaaCutj
import Derived.Test.YtnfdcdoelhanlaaCutf
import Derived.Test.YtnfdcdoelhanlaaCutq
import Derived.Test.YtnfdcdoelhanlaaBase
namespace Go.Proofs.Ytnfdcdoelhanlaa
open Go.RowKit
set_option linter.unusedVariables false

set_option maxRecDepth 100000 in
theorem fll_any (c : Bool) (w : World) : Calls Try.prog 57 #[.bool c] w fun e w' => e = .returned (.int .i64 (fillE c)) ∧ w' = w := by
  cases c
  all_goals
    go_enter Try.func57, Try.ntmps57
    go_wp2_with fail
    go_ret
    exact ⟨rfl, rfl⟩
set_option maxRecDepth 100000 in
set_option maxHeartbeats 1000000 in
theorem run_n (f : Int) (mi : Int) (m : Nat) (hmi : mi = m) (hf0 : -1000000 ≤ f) (hf1 : f ≤ 1000000) (hm : m ≤ 4096) (w : World) :
    Calls Try.prog 51 #[.int .i64 f, .int .i64 mi] w fun e w' => ∃ g c, e = .returned (.slice g m c) ∧ NewC w.heap.size w' g (runL f m) c ∧ Below w.heap.size w w' := by
  subst hmi
  have hmk := run_make_row' (P := Try.prog) 23 3 (.int .i64 0) 8 Try.underlying23 Try.infoInt rfl .i64 .i64 m (by omega) (by omega)
  go_enter Try.func51, Try.ntmps51
  go_wp2_with fail
  clear hmk
  go_loopw [11] (fun i wr => ∃ k : Nat, k ≤ m ∧ i = .int .i64 k ∧ wr.rowIs w.heap.size 3 m (upTo (nth (runL f m)) k) ∧ Below w.heap.size w wr) (fun i _ => m - (intOf i).toNat)
  case atStart => exact ⟨0, Nat.zero_le _, rfl, (World.rowIs_made w (.int .i64 0) m 3).congr (fun j _ => by simp [upTo]), (Below.refl _ w).alloc (Nat.le_refl _) _⟩
  case round =>
    obtain ⟨k, hk, rfl, hrow, hB⟩ := hrel
    by_cases hlt : k < m
    · have HV : Hid (f + (k : Int) = nth (runL f m) k) := (runL_nth f hlt).symm
      have c2 := hrow.cell hlt
      have f2 := hrow.frozen k
      have HQ : Hid (wr.rowIs w.heap.size 3 m (upTo (nth (runL f m)) k) ∧ Below w.heap.size w wr) := ⟨hrow, hB⟩
      clear hrow hB
      go_wp2_with fail
      refine ⟨⟨k + 1, by omega, by go_num, upTo_set HQ.out.1 _ HV.out, HQ.out.2.setCell (p := ⟨w.heap.size, k, none⟩) (Nat.le_refl _) _⟩, by simp [intOf]; omega⟩
    · obtain rfl : k = m := by omega
      have HQ : Hid (wr.rowIs w.heap.size 3 k (upTo (nth (runL f k)) k) ∧ Below w.heap.size w wr) := ⟨hrow, hB⟩
      clear hrow hB
      go_wp2_with fail
      go_ret
      exact ⟨some ⟨w.heap.size, 0, none⟩, k, rfl, ⟨upTo_new HQ.out.1 (Nat.le_refl _) _ (runL_length f k) (fun j hj => rfl), by rw [runL_length]; exact Nat.le_refl _⟩, HQ.out.2⟩
theorem msk_bad6 {m : List Int} {k : Nat} (hk : k < m.length) (h0 : nth m k ≠ 0) (h1 : nth m k ≠ 1) : mskB m = false := by
  cases h : mskB m
  · rfl
  · have := mskB_nth h hk; omega
theorem msk_snoc6 {m : List Int} {k : Nat} (hk : k < m.length) (h : mskB (m.take k) = true) (h1 : nth m k = 0 ∨ nth m k = 1) : mskB (m.take (k + 1)) = true := by
  unfold mskB at *
  rw [List.take_succ_eq_append_getElem hk, List.all_append, h, ← nth_get m k hk]
  simpa using h1
set_option maxRecDepth 100000 in
set_option maxHeartbeats 1000000 in
theorem mask6_any (a : Option Addr) (cap : Nat) (m : List Int) (hreach : m.length ≤ 9223372036854775807) (n₀ : Nat) (w : World) (hI : IsInts n₀ w a m) :
    Calls Try.prog 31 #[.slice a m.length cap] w fun e w' => e = .returned (.bool (mskB m)) ∧ w' = w := by
  go_enter Try.func31, Try.ntmps31
  go_wp2_with fail
  go_loop [7] (fun i => ∃ k : Nat, k ≤ m.length ∧ i = .int .i64 k ∧ Hid (mskB (m.take k) = true)) (fun i => m.length - (intOf i).toNat)
  case atStart => exact ⟨0, Nat.zero_le _, rfl, rfl⟩
  case round =>
    obtain ⟨k, hk, rfl, HA⟩ := hrel
    by_cases hlt : k < m.length
    · obtain ⟨b, off, rfl, hb, hcell⟩ := hI.at hlt
      have hc := hcell k hlt
      clear hcell
      by_cases h0 : nth m k = 0
      · have hst : Hid (mskB (m.take (k + 1)) = true) := msk_snoc6 hlt HA.out (.inl h0)
        rw [h0] at hc
        clear h0
        go_wp2_with fail
        go_round
        case rel => exact ⟨k + 1, by omega, by go_num, hst⟩
        case measure => simp [intOf]; omega
      · by_cases h1 : nth m k = 1
        · have hst : Hid (mskB (m.take (k + 1)) = true) := msk_snoc6 hlt HA.out (.inr h1)
          rw [h1] at hc
          clear h0 h1
          go_wp2_with fail
          go_round
          case rel => exact ⟨k + 1, by omega, by go_num, hst⟩
          case measure => simp [intOf]; omega
        · have hfin : Hid (mskB m = false) := msk_bad6 hlt h0 h1
          have t0 : (nth m k != 0) = true := by simpa using h0
          have t1 : (nth m k != 1) = true := by simpa using h1
          go_wp2_with fail
          go_ret
          exact ⟨ret_bool hfin.out.symm, rfl⟩
    · obtain rfl : k = m.length := by omega
      have hfin : Hid (mskB m = true) := by have := HA.out; rwa [List.take_length] at this
      go_wp2_with fail
      go_ret
      exact ⟨ret_bool hfin.out.symm, rfl⟩
set_option maxRecDepth 100000 in
set_option maxHeartbeats 1000000 in
theorem ones_any (a : Option Addr) (cap : Nat) (m : List Int) (hreach : m.length ≤ 9223372036854775807) (hm : mskB m = true) (n₀ : Nat) (w : World) (hI : IsInts n₀ w a m) :
    Calls Try.prog 33 #[.slice a m.length cap] w fun e w' => e = .returned (.int .i64 (sumI m)) ∧ w' = w := by
  have HM : Hid (mskB m = true) := hm
  clear hm
  go_enter Try.func33, Try.ntmps33
  go_wp2_with fail
  go_loop [3, 8] (fun pv i => ∃ k : Nat, k ≤ m.length ∧ i = .int .i64 k ∧ pv = .int .i64 (rnk m k)) (fun _ i => m.length - (intOf i).toNat)
  case atStart => exact ⟨0, Nat.zero_le _, rfl, rfl⟩
  case round =>
    obtain ⟨k, hk, rfl, rfl⟩ := hrel
    by_cases hlt : k < m.length
    · obtain ⟨b, off, rfl, hb, hcell⟩ := hI.at hlt
      have hc := hcell k hlt
      clear hcell
      have HR : Hid (rnk m (k + 1) = rnk m k + nth m k) := rnk_succ m hlt
      have hr := rnk_bd HM.out (k + 1) hlt
      rw [HR.out] at hr
      go_wp2_with fail
      exact ⟨⟨k + 1, by omega, by go_num, int_eq HR.out.symm⟩, by simp [intOf]; omega⟩
    · obtain rfl : k = m.length := by omega
      have hfin : Hid (rnk m m.length = sumI m) := rnk_all m
      go_wp2_with fail
      go_ret
      exact ⟨ret_int hfin.out, rfl⟩
end Go.Proofs.Ytnfdcdoelhanlaa
