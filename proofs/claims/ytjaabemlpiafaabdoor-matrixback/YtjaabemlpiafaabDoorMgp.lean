/-
  The program's powers of a matrix, and what makes 1 with an odd number.
-/
import Derived.Test.YtjaabemlpiafaabDoorMgt
namespace Go.Proofs.YtjaabemlpiafaabDoor
open Go.RowKit
set_option linter.unusedVariables false

/-- A power of n rows, with 0 elsewhere. -/
def pwg (n : Nat) (A : Mx) (e : Nat) : Mx := fun i j => if i < n ∧ j < n then wrap64 (pwM n A e i j) else 0
theorem sm_upto {n : Nat} (hn : n ≤ 6) {g : Nat → Int} (h : ∀ k, n ≤ k → g k = 0) : sm 6 g = sm n g := by
  obtain ⟨d, hd⟩ : ∃ d, 6 = n + d := ⟨6 - n, by omega⟩
  rw [hd, sm_app, sm_zero (n := d) (g := fun i => g (n + i)) fun i _ => h _ (by omega), Int.add_zero]
theorem pwg_mul {n : Nat} (hn : n ≤ 6) (A : Mx) (e f : Nat) : ∀ i, i < 6 → ∀ j, j < 6 → tmg (pwg n A e) (pwg n A f) i j = pwg n A (e + f) i j := fun i hi j hj => by
  unfold tmg
  rw [sm_upto hn (g := fun k => pwg n A e i k * pwg n A f k j) fun k hk => by show pwg n A e i k * _ = 0; unfold pwg; rw [if_neg (by omega), Int.zero_mul]]
  by_cases h : i < n ∧ j < n
  · rw [show pwg n A (e + f) i j = wrap64 (pwM n A (e + f) i j) from if_pos h, ← pwM_add n A e f i h.1 j h.2]
    exact cg.sm fun k hk => by
      rw [show pwg n A e i k = wrap64 (pwM n A e i k) from if_pos ⟨h.1, hk⟩, show pwg n A f k j = wrap64 (pwM n A f k j) from if_pos ⟨hk, h.2⟩]
      exact cg.mul (cg_w _) (cg_w _)
  · rw [show pwg n A (e + f) i j = 0 from if_neg h, sm_zero fun k hk => by
      unfold pwg
      by_cases hi' : i < n
      · rw [if_neg (show ¬ (k < n ∧ j < n) by omega), Int.mul_zero]
      · rw [if_neg (show ¬ (i < n ∧ k < n) by omega), Int.zero_mul]]
    exact w_small (by decide) (by decide)
theorem pwg_zero (n : Nat) (A : Mx) : pwg n A 0 = ung n := by
  funext i j
  unfold pwg ung
  show (if i < n ∧ j < n then wrap64 (un i j) else 0) = _
  by_cases h : i = j ∧ i < n
  · rw [if_pos h, if_pos (by omega), h.1]
    show wrap64 (one j j) = 1
    rw [one_at]
    exact w_small (by decide) (by decide)
  · rw [if_neg h]
    by_cases h2 : i < n ∧ j < n
    · rw [if_pos h2]
      show wrap64 (one i j) = 0
      rw [one_ne (by omega)]
      exact w_small (by decide) (by decide)
    · rw [if_neg h2]
/-- What makes 1 with an odd number, step by step. -/
def rcI (d : Int) : Nat → Int
  | 0 => d
  | i + 1 => wrap64 (rcI d i * wrap64 (2 - wrap64 (d * rcI d i)))
def rcU (d : Int) : Nat → Int
  | 0 => d
  | i + 1 => rcU d i * (2 - d * rcU d i)
theorem rc_cg (d : Int) : ∀ i, cg (rcI d i) (rcU d i)
  | 0 => rfl
  | i + 1 => (cg_w _).trans (cg.mul (rc_cg d i) ((cg_w _).trans (cg.sub (cg.rfl' 2) ((cg_w _).trans (cg.mul (cg.rfl' d) (rc_cg d i))))))
theorem rc_step (d x e : Int) (h : d * x = 1 + e) : d * (x * (2 - d * x)) = 1 + -(e * e) := by
  rw [← Int.mul_assoc, h]
  grind
theorem rc_sq {d : Int} {m n : Nat} {x : Int} (h : ∃ q, d * x = 1 + 2 ^ m * q) (hn : n = m + m) : ∃ q, d * (x * (2 - d * x)) = 1 + 2 ^ n * q := by
  obtain ⟨q, hq⟩ := h
  refine ⟨-(q * q), ?_⟩
  rw [rc_step d x _ hq, hn, Int.pow_add]
  grind
theorem rc_odd {d : Int} (hd : d % 2 = 1) : cg (rcI d 5 * d) 1 := by
  have h0 : ∃ q, d * rcU d 0 = 1 + 2 ^ 3 * q := by
    obtain ⟨t, ht⟩ : ∃ t, d = 2 * t + 1 := ⟨d / 2, by omega⟩
    obtain ⟨s, hs⟩ : ∃ s, t * (t + 1) = 2 * s := by
      have : t % 2 = 0 ∨ t % 2 = 1 := by omega
      rcases this with h | h
      · refine ⟨t / 2 * (t + 1), ?_⟩
        rw [← Int.mul_assoc, show 2 * (t / 2) = t by omega]
      · refine ⟨t * ((t + 1) / 2), ?_⟩
        rw [show 2 * (t * ((t + 1) / 2)) = t * (2 * ((t + 1) / 2)) by grind, show 2 * ((t + 1) / 2) = t + 1 by omega]
    refine ⟨s, ?_⟩
    show d * d = _
    rw [ht]
    grind
  have h1 : ∃ q, d * rcU d 1 = 1 + 2 ^ 6 * q := rc_sq h0 rfl
  have h2 : ∃ q, d * rcU d 2 = 1 + 2 ^ 12 * q := rc_sq h1 rfl
  have h3 : ∃ q, d * rcU d 3 = 1 + 2 ^ 24 * q := rc_sq h2 rfl
  have h4 : ∃ q, d * rcU d 4 = 1 + 2 ^ 48 * q := rc_sq h3 rfl
  obtain ⟨q, h5⟩ : ∃ q, d * rcU d 5 = 1 + 2 ^ 96 * q := rc_sq h4 rfl
  refine (cg.mul (rc_cg d 5) (cg.rfl' d)).trans (cg_one ⟨2 ^ 32 * q, ?_⟩)
  rw [Int.mul_comm, h5, ← Int.mul_assoc, ← Int.pow_add]
  omega
set_option maxHeartbeats 2000000 in
theorem reciprocal_any (d : Int) (w : World) : Calls Tryd.prog 19 #[.int .i64 d] w fun e w' => e = .returned (.int .i64 (rcI d 5)) ∧ w' = w := by
  go_enter Tryd.func19, Tryd.ntmps19
  go_wp2_with fail
  go_loopw [3, 5] (fun x i wr => ∃ t : Nat, t ≤ 5 ∧ i = .int .i64 t ∧ x = .int .i64 (rcI d t) ∧ wr = w) (fun _ i _ => 5 - (intOf i).toNat)
  case atStart => exact ⟨0, Nat.zero_le _, rfl, rfl, rfl⟩
  case round =>
    obtain ⟨t, ht, rfl, rfl, rfl⟩ := hrel
    have HS : Hid (wrap64 (rcI d t * wrap64 (2 - wrap64 (d * rcI d t))) = rcI d (t + 1)) := rfl
    by_cases hlt : t < 5
    · generalize rcI d t = X at *
      go_wp2_with fail
      exact ⟨⟨t + 1, by omega, by go_num, by rw [← HS.out], trivial⟩, by simp [intOf]; omega⟩
    · obtain rfl : t = 5 := by omega
      go_wp2_with fail
      go_ret
      exact ⟨rfl, rfl⟩
end Go.Proofs.YtjaabemlpiafaabDoor
