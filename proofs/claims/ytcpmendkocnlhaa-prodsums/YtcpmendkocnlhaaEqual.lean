/-
  Are two lists the same? What the library's slices.Equal tells.
-/
import Derived.Deep.QuietTactic
import Derived.BigQuiet
import Derived.Test.YtcpmendkocnlhaaBase
namespace Go.Proofs.Ytcpmendkocnlhaa
open Go.RowKit
set_option linter.unusedVariables false

set_option maxRecDepth 100000 in
set_option maxHeartbeats 1000000 in
theorem equal_any (a : Option Addr) (cap : Nat) (zs : List Int) (a' : Option Addr) (cap' : Nat) (us : List Int) (hreach : zs.length ≤ 9223372036854775807) (n₀ : Nat) (w : World) (hI : IsInts n₀ w a zs) (hI' : IsInts n₀ w a' us) :
    Calls Try.prog 57 #[.slice a zs.length cap, .slice a' us.length cap'] w fun e w' => e = .returned (.bool (eqB zs us)) ∧ ∃ m, w' = w.drewN m := by
  by_cases hlen : zs.length = us.length
  · have hl : ((zs.length : Int) != (us.length : Int)) = false := by simp [hlen]
    have H : Hid (zs.length = us.length) := hlen
    clear hlen
    go_enter Try.func57, Try.ntmps57
    go_wp2_with fail
    go_loopw [13] (fun i wr => ∃ k : Nat, k ≤ zs.length ∧ i = .int .i64 k ∧ (∀ j, j < k → nth zs j = nth us j) ∧ ∃ m, wr = w.drewN m) (fun i _ => zs.length - (intOf i).toNat)
    case atStart => exact ⟨0, Nat.zero_le _, rfl, fun j hj => by omega, 0, rfl⟩
    case round =>
      obtain ⟨k, hk, rfl, hsame, m, rfl⟩ := hrel
      have HS : Hid (∀ j, j < k → nth zs j = nth us j) := hsame
      clear hsame
      by_cases hlt : k < zs.length
      · obtain ⟨b, off, rfl, hb, hcell⟩ := hI.at hlt
        obtain ⟨b', off', rfl, hb', hcell'⟩ := hI'.at (q := k) (by rw [← H.out]; exact hlt)
        have hlt' : k < us.length := by rw [← H.out]; exact hlt
        have hc := hcell k hlt
        have hc' := hcell' k hlt'
        clear hcell hcell'
        by_cases he : nth zs k = nth us k
        · have hne : (nth zs k != nth us k) = false := by simp [he]
          have HE : Hid (nth zs k = nth us k) := he
          clear he
          go_wp2_with fail
          go_quiet (fail)
          go_wp2
          go_roundw
          case rel => exact ⟨k + 1, by omega, by go_num, fun j hj => by by_cases e : j = k; · rw [e]; exact HE.out
                                                                        · exact HS.out j (by omega), _, rfl⟩
          case measure => simp [intOf]; omega
        · have hne : (nth zs k != nth us k) = true := by simp [he]
          have hfin : Hid (eqB zs us = false) := eqB_false (fun e => he (by rw [e]))
          go_wp2_with fail
          go_quiet (fail)
          go_wp2
          go_ret
          exact ⟨ret_bool hfin.out.symm, _, World.drewN_drewN ..⟩
      · obtain rfl : k = zs.length := by omega
        have hfin : Hid (eqB zs us = true) := eqB_true (nth_ext H.out HS.out)
        go_wp2_with fail
        go_ret
        exact ⟨ret_bool hfin.out.symm, m, rfl⟩
  · have hl : ((zs.length : Int) != (us.length : Int)) = true := by simp; omega
    have hfin : Hid (eqB zs us = false) := eqB_false (fun e => hlen (by rw [e]))
    go_enter Try.func57, Try.ntmps57
    go_wp2_with fail
    go_ret
    exact ⟨ret_bool hfin.out.symm, 0, rfl⟩
end Go.Proofs.Ytcpmendkocnlhaa
