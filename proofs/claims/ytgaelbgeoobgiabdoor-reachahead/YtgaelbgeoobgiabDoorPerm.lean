/-
  Are they the numbers from 0 on, each once? What the statements' helper tells.
-/
import Derived.Deep.QuietTactic
import Derived.BigQuiet
import Derived.Test.YtgaelbgeoobgiabDoorIsord
namespace Go.Proofs.YtgaelbgeoobgiabDoor
open Go.RowKit
set_option linter.unusedVariables false

theorem OrdTo.more {ps : List Int} {k : Nat} (h : OrdTo ps k) (h1 : 0 ≤ nth ps k ∧ nth ps k < ps.length) (h2 : ∀ i, i < k → nth ps i ≠ nth ps k) : OrdTo ps (k + 1) := by
  refine ⟨fun j hj => ?_, fun i j hij hj => ?_⟩
  · by_cases e : j = k
    · rw [e]; exact h1
    · exact h.1 j (by omega)
  · by_cases e : j = k
    · rw [e]; exact h2 i (by omega)
    · exact h.2 i j hij (by omega)
theorem ne_snoc {ps : List Int} {j k : Nat} (h : ∀ i, i < j → nth ps i ≠ nth ps k) (he : nth ps j ≠ nth ps k) : ∀ i, i < j + 1 → nth ps i ≠ nth ps k := fun i hi => by
  by_cases e : i = j
  · rw [e]; exact he
  · exact h i (by omega)
theorem ordB_twice {ps : List Int} {i k : Nat} (hi : i < k) (hk : k < ps.length) (h : nth ps i = nth ps k) : ordB ps = false := by
  rw [← Bool.not_eq_true, ordB_iff]; intro ho; exact ho.2 i k hi hk h
set_option maxRecDepth 100000 in
set_option maxHeartbeats 4000000 in
theorem perm_any (a : Option Addr) (cap : Nat) (ps : List Int) (hl : ps.length ≤ 9223372036854775807) (n₀ : Nat) (w : World) (hI : IsInts n₀ w a ps) :
    Calls Tryd.prog 8 #[.slice a ps.length cap] w fun e w' => e = .returned (.bool (ordB ps)) ∧ Below w.heap.size w w' := by
  go_enter Tryd.func8, Tryd.ntmps8
  go_wp2_with fail
  go_loopw [3] (fun i wr => ∃ k : Nat, k ≤ ps.length ∧ i = .int .i64 k ∧ OrdTo ps k ∧ ∃ m, wr = w.drewN m) (fun i _ => ps.length - (intOf i).toNat)
  case atStart => exact ⟨0, Nat.zero_le _, rfl, OrdTo.zero ps, 0, rfl⟩
  case round =>
    obtain ⟨k, hk, rfl, hT, m, rfl⟩ := hrel
    have HT : Hid (OrdTo ps k) := hT
    clear hT
    by_cases hlt : k < ps.length
    · obtain ⟨b, off, rfl, hb, hcell⟩ := hI.at hlt
      have hc := hcell k hlt
      by_cases h1 : nth ps k < 0
      · have hfin : Hid (ordB ps = false) := ordB_low hlt h1
        clear hcell
        go_wp2_with fail
        go_ret
        exact ⟨ret_bool hfin.out.symm, bel_drewN (Below.refl _ _) _⟩
      · by_cases h2 : (ps.length : Int) ≤ nth ps k
        · have hfin : Hid (ordB ps = false) := ordB_high hlt h2
          clear hcell
          go_wp2_with fail
          go_ret
          exact ⟨ret_bool hfin.out.symm, bel_drewN (Below.refl _ _) _⟩
        · have HC : Hid (∀ j, j < ps.length → w.cell? ⟨b, off + j, none⟩ = some (.int .i64 (nth ps j))) := hcell
          clear hcell
          have h1' : 0 ≤ nth ps k := by omega
          have h2' : nth ps k < (ps.length : Int) := by omega
          go_wp2_with fail
          go_loopw [4] (fun i wr => ∃ j : Nat, j ≤ k ∧ i = .int .i64 j ∧ (∀ i, i < j → nth ps i ≠ nth ps k) ∧ ∃ m, wr = w.drewN m) (fun i _ => k - (intOf i).toNat)
          case atStart => exact ⟨0, Nat.zero_le _, rfl, fun i hi => by omega, _, rfl⟩
          case round =>
            obtain ⟨j, hj, rfl, hN, m', rfl⟩ := hrel
            have HN : Hid (∀ i, i < j → nth ps i ≠ nth ps k) := hN
            clear hN
            by_cases hjl : j < k
            · have hcj := HC.out j (by omega)
              have hjp : j < ps.length := by omega
              by_cases he : nth ps j = nth ps k
              · have te : (nth ps j == nth ps k) = true := by simp [he]
                have hfin : Hid (ordB ps = false) := ordB_twice hjl hlt he
                clear he
                go_wp2_with fail
                go_quiet (fail)
                go_wp2
                go_ret
                exact ⟨ret_bool hfin.out.symm, bel_drewN (bel_drewN (Below.refl _ _) _) _⟩
              · have te : (nth ps j == nth ps k) = false := by simp [he]
                have HE : Hid (nth ps j ≠ nth ps k) := he
                clear he
                go_wp2_with fail
                go_quiet (fail)
                go_wp2
                go_roundw
                case rel => exact ⟨j + 1, by omega, by go_num, ne_snoc HN.out HE.out, _, rfl⟩
                case measure => simp [intOf]; omega
            · obtain rfl : j = k := by omega
              have HM : Hid (OrdTo ps (j + 1)) := HT.out.more ⟨h1', h2'⟩ HN.out
              go_wp2_with fail
              exact ⟨⟨j + 1, by omega, by go_num, HM.out, _, rfl⟩, by simp [intOf]; omega⟩
    · obtain rfl : k = ps.length := by omega
      have hfin : Hid (ordB ps = true) := (ordB_iff ps).2 HT.out
      go_wp2_with fail
      go_ret
      exact ⟨ret_bool hfin.out.symm, bel_drewN (Below.refl _ _) _⟩
end Go.Proofs.YtgaelbgeoobgiabDoor
