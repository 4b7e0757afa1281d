/-
  The document's answers on orders: signs, factorials, ranks.
-/
import Derived.Deep.QuietTactic
import Derived.BigQuiet
import Derived.WalkSmall
import Derived.Test.YtcblakcaoecgpaaDoorRpm1
namespace Go.Proofs.YtcblakcaoecgpaaDoor
open Go.RowKit
set_option linter.unusedVariables false

/-! ### Signs -/
def sgs (c : Nat) : Int := if c % 2 = 0 then 1 else -1
theorem sgs_next (c : Nat) : sgs (c + 1) = - sgs c := by
  unfold sgs
  by_cases h : c % 2 = 0
  · rw [if_pos h, if_neg (by omega)]
  · rw [if_neg h, if_pos (by omega)]; rfl
theorem sgs_one (c : Nat) : sgs c = 1 ∨ sgs c = -1 := by unfold sgs; split <;> simp
/-- The wrong pairs so far. -/
def cnk (p : List Int) (i j : Nat) : Nat := tu (wrg (nth p)) i + su (fun j => wrg (nth p) i j) j
theorem cnk_next (p : List Int) {i j : Nat} (h : j < i) : cnk p i (j + 1) = cnk p i j + if nth p i < nth p j then 1 else 0 := by
  unfold cnk
  simp only [su]
  rw [wrg_low h]
  omega
theorem cnk_end (p : List Int) (i : Nat) : cnk p i i = cnk p (i + 1) 0 := by
  unfold cnk
  simp only [su, tu]
  rfl
theorem sg_cnk (p : List Int) : sgV p = sgs (cnk p p.length 0) := by
  unfold sgV cnk sgs wrn
  simp only [su]
  rfl
set_option maxRecDepth 100000 in
set_option maxHeartbeats 2000000 in
theorem signed_any (a : Option Addr) (cap : Nat) (p : List Int) (h1 : p.length ≤ 4096) (n₀ : Nat) (w : World) (hI : IsInts n₀ w a p) :
    Calls Tryd.prog 19 #[.slice a p.length cap] w fun e w' => e = .returned (.int .i64 (sgV p)) ∧ Below w.heap.size w w' := by
  obtain ⟨S0, hS0⟩ : ∃ S, S = sgV p := ⟨_, rfl⟩
  rw [← hS0]
  have HS0 : Hid (S0 = sgs (cnk p p.length 0)) := by rw [hS0]; exact sg_cnk p
  have HI : Hid (IsInts n₀ w a p) := hI
  clear hS0 hI
  go_enter Tryd.func19, Tryd.ntmps19
  go_wp2_with fail
  go_loopw [3, 4] (fun s i wr => ∃ k : Nat, k ≤ p.length ∧ i = .int .i64 k ∧ s = .int .i64 (sgs (cnk p k 0)) ∧ ∃ m, wr = w.drewN m) (fun _ i _ => p.length - (intOf i).toNat)
  case atStart => exact ⟨0, Nat.zero_le _, rfl, rfl, 0, rfl⟩
  case round =>
    obtain ⟨k, hk, rfl, rfl, m, rfl⟩ := hrel
    by_cases hlt : k < p.length
    · go_wp2_with fail
      go_loopw [3, 5] (fun s i wr => ∃ j : Nat, j ≤ k ∧ i = .int .i64 j ∧ s = .int .i64 (sgs (cnk p k j)) ∧ ∃ m, wr = w.drewN m) (fun _ i _ => k - (intOf i).toNat)
      case atStart => exact ⟨0, Nat.zero_le _, rfl, rfl, m, rfl⟩
      case round =>
        clear m
        obtain ⟨j, hj, rfl, rfl, m, rfl⟩ := hrel
        by_cases hjk : j < k
        · obtain ⟨b, off, rfl, hb, hcell⟩ := HI.out.at hlt
          have hc := hcell k hlt
          have hc' := hcell j (by omega)
          have hn := cnk_next p hjk
          clear hcell
          by_cases he : nth p k < nth p j
          · rw [if_pos he] at hn
            have hd : decide (nth p j > nth p k) = true := decide_eq_true he
            have HN : Hid (sgs (cnk p k (j + 1)) = - sgs (cnk p k j)) := by show _ = _; rw [hn]; exact sgs_next _
            have h2 := sgs_one (cnk p k j)
            clear hn he
            generalize sgs (cnk p k j) = S at *
            have hw : wrap64 (-S) = -S := by rcases h2 with e | e <;> rw [e] <;> exact w_small (by decide) (by decide)
            clear h2
            go_wp2_with fail
            go_quiet (fail)
            go_wp2
            go_roundw
            case rel => exact ⟨j + 1, by omega, by go_num, by rw [HN.out]; first | rfl | rw [hw], _, rfl⟩
            case measure => simp [intOf]; omega
          · rw [if_neg he] at hn
            have hd : decide (nth p j > nth p k) = false := decide_eq_false he
            have HN : Hid (sgs (cnk p k (j + 1)) = sgs (cnk p k j)) := by show _ = _; rw [hn]; rfl
            clear hn he
            generalize sgs (cnk p k j) = S at *
            go_wp2_with fail
            go_quiet (fail)
            go_wp2
            go_roundw
            case rel => exact ⟨j + 1, by omega, by go_num, by rw [HN.out], _, rfl⟩
            case measure => simp [intOf]; omega
        · obtain rfl : j = k := by omega
          rw [cnk_end]
          go_wp2_with fail
          exact ⟨⟨j + 1, by omega, by go_num, rfl, _, rfl⟩, by simp [intOf]; omega⟩
    · obtain rfl : k = p.length := by omega
      rw [← HS0.out]
      go_wp2_with fail
      go_ret
      exact ⟨rfl, bel_drewN (Below.refl _ _) _⟩
/-! ### Factorials -/
theorem fac_le12 : ∀ n, n < 13 → fac n ≤ 479001600 := by decide
set_option maxRecDepth 100000 in
set_option maxHeartbeats 1000000 in
theorem fact_any (n : Int) (h0 : 0 ≤ n) (h1 : n ≤ 12) (w : World) :
    Calls Tryd.prog 25 #[.int .i64 n] w fun e w' => e = .returned (.int .i64 (fac n.toNat : Nat)) ∧ w' = w := by
  obtain ⟨N, hN⟩ : ∃ N : Nat, n = N := ⟨n.toNat, by omega⟩
  subst hN
  rw [Int.toNat_natCast]
  obtain ⟨F, hF⟩ : ∃ F, F = fac N := ⟨_, rfl⟩
  rw [← hF]
  have HF : Hid (F = fac N) := hF
  clear hF
  go_enter Tryd.func25, Tryd.ntmps25
  go_wp2_with fail
  go_loopw [3, 4] (fun f i wr => ∃ k : Nat, (k + 1 ≤ N ∨ k = 0) ∧ i = .int .i64 (k + 2 : Nat) ∧ f = .int .i64 (fac (k + 1) : Nat) ∧ wr = w) (fun _ i _ => 20 - (intOf i).toNat)
  case atStart => exact ⟨0, .inr rfl, rfl, rfl, rfl⟩
  case round =>
    obtain ⟨k, hk, rfl, rfl, hv⟩ := hrel
    obtain rfl := hv.symm
    by_cases hlt : k + 2 ≤ N
    · have hle := fac_le12 (k + 2) (by omega)
      have hs : fac (k + 2) = (k + 2) * fac (k + 1) := rfl
      have hw : wrap64 ((fac (k + 1) : Int) * ((k + 2 : Nat) : Int)) = (fac (k + 2) : Nat) := by rw [hs, Nat.mul_comm] at hle ⊢; rw [← Int.natCast_mul]; exact w_small (by omega) (by omega)
      clear hs hv
      generalize hQ : fac (k + 2) = Q at *
      have HQ : Hid (fac (k + 2) = Q) := hQ
      clear hQ
      generalize fac (k + 1) = G at *
      have hi : ((k : Int) + 2 ≤ (N : Int)) := by omega
      go_wp2_with fail
      exact ⟨⟨k + 1, .inl (by omega), by go_num, by rw [HQ.out]; first | rfl | (rw [← hw]; rfl), by first | rfl | trivial⟩, by simp [intOf]; omega⟩
    · have hfin : Hid (fac (k + 1) = F) := by
        show _ = _
        rw [HF.out]
        rcases hk with h | h
        · rw [show k + 1 = N by omega]
        · subst h
          rcases Nat.lt_or_ge N 1 with h2 | h2
          · obtain rfl : N = 0 := by omega
            rfl
          · obtain rfl : N = 1 := by omega
            rfl
      rw [hfin.out]
      have hi : ¬ ((k : Int) + 2 ≤ (N : Int)) := by omega
      clear hv
      go_wp2_with fail
      go_ret
      exact ⟨rfl, rfl⟩
end Go.Proofs.YtcblakcaoecgpaaDoor
